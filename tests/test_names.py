"""What is told: once, before it is used, and of which kind."""

import unittest

from tests.helper import PatternCase

HEAD = "pattern a; "
KINDS = {
    "size": "sizes x;", "yarn": "yarns x;", "number": "let x = 1;", "word": "word x = k;", "block": "block x { }",
}
USES = {
    "yarn": ("row yarn @x;", "row (k, yarn @x);"),
    "number": (
        "on @x;", "on 1+@x round;", "row k @x;", "row k (@x);", "row k to last @x;", "repeat @x { }", "until 2*@x { }",
        "work told @x;", "row hold h @x;", "row cl 1/1 @x;",
    ),
    "word": ("row @x;", "row rs k, @x 2;", "row (@x) to end;"),
    "block": ("work @x;", "work @x 2;", "repeat 1 { work @x; }"),
}


class Told(PatternCase):
    def test_each_use_of_each_kind(self):
        for use, texts in USES.items():
            for text in texts:
                for kind, head in KINDS.items():
                    if kind == use:
                        self.right(HEAD + "block told { } " + head + text.replace("@", ""))
                    else:
                        self.fault(4, HEAD + "block told { } " + head + text)

    def test_not_told(self):
        for texts in USES.values():
            for text in texts:
                self.fault(4, HEAD + "block told { } " + text)

    def test_told_only_behind(self):
        self.fault(4, HEAD + "word w = @v; word v = k;")
        self.fault(4, HEAD + "let n = @o; let o = 1;")
        self.fault(4, HEAD + "block b { work @c; } block c { }")
        self.fault(4, HEAD + "block b { row yarn @y; } yarns y;")
        self.fault(4, HEAD + "block b { on @n; } let n = 1;")

    def test_told_behind_its_own_end(self):
        self.fault(4, HEAD + "let n = @n;")
        self.fault(4, HEAD + "sizes s, m; let n = 1, @n;")
        self.fault(4, HEAD + "word w = k, @w;")
        self.fault(4, HEAD + "block b { work @b; }")
        self.fault(4, HEAD + "block b { repeat 1 { work @b; } }")
        self.right(HEAD + "let n = 1; let o = n; word w = k n; word v = w o; block b { row v; } block c { work b n; }")

    def test_the_patterns_own_name_is_no_others_business(self):
        for head in KINDS.values():
            self.right("pattern x; " + head)
        self.fault(4, "pattern x; on @x;")
        self.fault(4, "pattern x; row @x;")
        self.fault(4, "pattern x; work @x;")
        self.right("pattern x; row mark x, take x;")

    def test_yarn_without_yarns(self):
        self.fault(4, HEAD + "row yarn @y;")
        self.fault(4, HEAD + "word w = yarn @y;")
        self.fault(4, HEAD + "yarns y; row yarn @z;")
        self.right(HEAD + "yarns y, z; row yarn z;")


class ToldAlready(PatternCase):
    def test_all_names_are_different(self):
        again = {
            "size": "sizes @x;", "yarn": "yarns @x;", "number": "let @x = 1;", "word": "word @x = k;",
            "block": "block @x { }",
        }
        for first, head in KINDS.items():
            for second, text in again.items():
                if first == second and first in ("size", "yarn") or (first, second) == ("number", "size"):
                    continue
                self.fault(5, HEAD + head + text)

    def test_in_the_same_sizes_or_yarns(self):
        for word in ("sizes", "yarns"):
            self.fault(5, HEAD + word + " x, @x;")
            self.fault(5, HEAD + word + " x, y, z, @y;")
            self.right(HEAD + word + " x, y, z;")
        self.fault(5, HEAD + "sizes x, y; yarns z, @y;")
        self.fault(5, HEAD + "yarns x, y; sizes z, @x;")

    def test_sizes_or_yarns_again(self):
        self.fault(5, HEAD + "sizes x; @sizes y;")
        self.fault(5, HEAD + "sizes x; yarns y; @sizes z;")
        self.fault(5, HEAD + "yarns x; @yarns y;")
        self.fault(5, HEAD + "yarns x; sizes y; let n = 1; @yarns z;")
        self.fault(5, HEAD + "sizes x; @sizes x;")

    def test_sizes_behind_a_let(self):
        self.fault(5, HEAD + "let n = 1; @sizes x;")
        self.fault(5, HEAD + "let n = 1; word w = k; @sizes x;")
        self.fault(5, HEAD + "sizes x; let n = 1; @sizes y;")
        self.right(HEAD + "word w = k; block b { } yarns y; sizes x;")
        self.right(HEAD + "let n = 1; yarns x;")


class MarkersAndHolders(PatternCase):
    def test_told_by_standing_there(self):
        self.right(HEAD + "row pass m; row k to mark n; row clear o, mark q;")
        self.right(HEAD + "row take h, hold i;")

    def test_they_stand_beside_all_others(self):
        for head in KINDS.values():
            self.right(HEAD + head + "row mark x, pass x, clear x, k to mark x, hold x 2, take x;")

    def test_they_tell_nothing_to_others(self):
        for kind in ("yarn", "number", "word", "block"):
            for text in USES[kind]:
                self.fault(4, HEAD + "block told { row mark x, hold x; } " + text)
        for head in KINDS.values():
            self.right(HEAD + "block told { row mark x, hold x; } " + head)


if __name__ == "__main__":
    unittest.main()
