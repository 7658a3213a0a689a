"""Which texts are one tree: whole patterns, heads, statements, items; texts that differ in one thing alone."""

import itertools
import unittest

from waletexts.patterns import judge, same

from tests.helper import EVERYTHING, PLAIN, RESERVED, SCARF, PatternCase, codes, cut, squeezed

TOLD = (
    "pattern a; sizes s, m; yarns red, blue; let n = 3; let o = 4; word w = k; word v = k; block b { } block c { } "
)

# In each group every two are two trees.
HEADS = (
    ("", "sizes s;", "sizes t;", "sizes s, t;", "sizes t, s;", "sizes s, t, r;", "sizes s, r, t;", "yarns s;",
     "yarns t;", "yarns s, t;", "yarns t, s;", "sizes s; yarns t;", "yarns t; sizes s;", "sizes t; yarns s;"),
    ("", "let n = 1;", "let n = 2;", "let o = 1;", "let n = 1+1;", "let n = 1*1;", "word n = k;", "block n { }",
     "sizes n;", "yarns n;", "let n = 1; let o = 1;", "let o = 1; let n = 1;", "let n = 1; let o = n;"),
    ("sizes s, m;", "sizes s, m; let n = 1;", "sizes s, m; let n = 1, 2;", "sizes s, m; let n = 2, 1;",
     "sizes s, m; let n = 1, 1;", "sizes s, m; let n = 2, 2;", "sizes s, m; let n = 1, 2+1;"),
    ("", "word w = k;", "word v = k;", "word w = p;", "word w = k 2;", "word w = k, k;", "word w = (k);",
     "word w = (k, k);", "word w = (k) 2;", "word w = k to end;", "word w = turn;", "word w = mark k_;",
     "word w = k; word v = k;", "word v = k; word w = k;", "word w = k; word v = w;"),
    ("", "block b { }", "block c { }", "block b { off; }", "block b { off; off; }", "block b { on 1; }",
     "block b { } block c { }", "block c { } block b { }", "block b { } off;", "off;", "block b { } block c { off; }",
     "block b { off; } block c { }", "block b { repeat 1 { } }", "block b { } repeat 1 { }"),
)
STATS = (
    "", "on 3;", "on 4;", "on n;", "on o;", "on 3 round;", "on 4 round;", "on n round;", "on 3+1;", "on 3-1;",
    "row k;", "row rs k;", "row ws k;", "row p;", "row rs p;", "row k, p;", "row p, k;", "row k; row p;", "row (k);",
    "row (k, p);", "row rs (k);", "row k 3;", "repeat 3 { }", "repeat 4 { }", "repeat n { }", "until 3 { }",
    "until n { }", "repeat 3 { off; }", "until 3 { off; }", "repeat 3 { } off;", "off; repeat 3 { }",
    "repeat 3 { off; off; }", "repeat 3 { off; } off;", "repeat 3 { repeat 3 { } }", "repeat 3 { } repeat 3 { }",
    "repeat 3 { until 3 { } }", "until 3 { repeat 3 { } }", "repeat 3 { repeat 3 { off; } }",
    "repeat 3 { repeat 3 { } off; }", "repeat 3 { off; repeat 3 { } }", "work b;", "work c;", "work b 1;",
    "work b 2;", "work b n;", "work c 2;", "work b; work c;", "work c; work b;", "off;", "off; off;", "off; off; off;",
)
UNITS = PLAIN + [
    "w", "v", "cl 1/2", "cl 2/1", "cl 1/1", "cl 2/2", "cl 1/12", "cl 11/2", "cr 1/2", "cr 2/1", "hold h", "hold i",
    "hold w", "(k)", "(p)", "(w)", "((k))", "(k, k)", "(k, p)", "(p, k)", "(k 2)", "(turn)", "(k to end)",
]
BEHIND = (
    "", " 2", " 3", " n", " o", " 2+n", " 2-n", " 2*n", " 2/n", " n*2", " (2+n)*3", " 2+n*3", " to end", " to last 2",
    " to last 3", " to last n", " to last 2+n", " to mark h", " to mark i", " to mark n",
)
LONES = (
    "take h", "take i", "take red", "yarn red", "yarn blue", "mark h", "mark i", "mark red", "pass h", "pass i",
    "clear h", "clear i", "turn", "fasten",
)
LISTS = (
    "k", "(k)", "((k))", "(((k)))", "k, p", "(k, p)", "((k, p))", "(k), p", "k, (p)", "(k), (p)", "((k), p)",
    "(k, (p))", "((k), (p))", "(k) 2", "(k 2)", "k 2", "((k) 2)", "((k 2))", "(k, p) 2", "(k, p 2)", "(k 2, p)",
    "k 2, p", "k, p 2", "k, k", "k, k, k", "(k, k), k", "k, (k, k)", "(k, k, k)", "(k) to end", "(k to end)", "turn",
    "(turn)", "turn, turn", "(turn, turn)", "(turn), turn", "turn, (turn)", "k, turn", "turn, k", "w 2, v", "w, v 2",
)


class WholeTexts(PatternCase):
    def test_a_text_and_itself(self):
        for text in (SCARF, EVERYTHING, "pattern a;"):
            self.one_tree(text, text)
            handed = codes(text)
            self.assertEqual(same(handed, handed), [1])

    def test_a_text_and_its_form(self):
        for text in (SCARF, EVERYTHING, "pattern a;", TOLD):
            self.one_tree(text, self.form(text))

    def test_blanks_and_comments_alone(self):
        for text in (SCARF, EVERYTHING):
            tokens = cut(text)
            ways = [text, squeezed(tokens), text + " # the end"]
            for blank in (" ", "\n", "   ", " \n\n ", "#\n", "# off; A ! 01 {\n", "\n  # one\n# two\n  "):
                ways.append(blank + blank.join(tokens) + blank)
            for one, other in itertools.product(ways, repeat=2):
                self.assertEqual(same(codes(one), codes(other)), [1], (one, other))

    def test_what_stands_in_a_comment_is_no_part_of_it(self):
        self.one_tree("pattern a; off;", "pattern a; # on 1;\n off; # off;")
        self.two_trees("pattern a; off;", "pattern a; # off;")

    def test_a_number_right_behind_a_word(self):
        self.one_tree(TOLD + "row k3;", TOLD + "row k 3;")
        self.two_trees(TOLD + "row k 3;", TOLD + "row k3tog;")

    def test_others(self):
        self.two_trees(SCARF, EVERYTHING)
        self.two_trees(SCARF, "pattern scarf;")

    def test_the_patterns_own_name(self):
        for one, other in itertools.permutations(("a", "b", "ab", "a_", "aa", "scarf"), 2):
            self.two_trees("pattern " + one + ";", "pattern " + other + ";")
        self.two_trees(SCARF, SCARF.replace("scarf", "scarg"))
        self.two_trees("pattern a; off;", "pattern b; off;")

    def test_one_text_begins_as_the_other(self):
        text = ""
        for statement in cut_behind_ends(EVERYTHING):
            if text:
                self.two_trees(text, text + statement)
            text += statement
        self.assertEqual(text, EVERYTHING)


def cut_behind_ends(text):
    """The text in pieces, each a whole head or statement that stands in no brace."""
    piece = ""
    for sign in text:
        piece += sign
        if sign in ";}" and piece.count("{") == piece.count("}"):
            yield piece
            piece = ""


class Groups(PatternCase):
    def all_differ(self, texts):
        for (index, one), (number, other) in itertools.product(enumerate(texts), repeat=2):
            self.assertEqual(same(codes(one), codes(other)), [int(index == number)], (one, other))

    def test_heads(self):
        for group in HEADS:
            self.all_differ(["pattern a; " + head for head in group])
            for one, other in itertools.combinations(group, 2):
                self.two_trees("pattern a; " + one, "pattern a; " + other)

    def test_heads_before_others(self):
        for group in HEADS:
            # The stats in a group of heads would keep a head from standing behind them.
            heads = [head for head in group if not head.endswith(("off;", "repeat 1 { }"))]
            self.all_differ(["pattern a; " + head + " word z = k; repeat 2 { on 1; }" for head in heads])

    def test_stats(self):
        self.all_differ([TOLD + stat for stat in STATS])

    def test_stats_in_braces(self):
        for before, behind in (("block d { ", " }"), ("repeat 2 { ", " }"), ("until 1 { off; ", " } off;"),
                               ("repeat 1 { until 2 { repeat 3 { ", " } } }")):
            for one, other in zip(STATS, STATS[1:] + STATS[:1]):
                self.two_trees(TOLD + before + one + behind, TOLD + before + other + behind)
                self.one_tree(TOLD + before + one + behind, squeezed(cut(TOLD + before + one + behind)))

    def test_units_and_lones(self):
        told = "pattern a; yarns red, blue; word w = k; word v = k; row "
        self.all_differ([told + item + ";" for item in (*UNITS, *LONES)])

    def test_what_stands_behind_a_unit(self):
        for unit in ("k", "k2tog", "w", "cl 1/2", "hold h", "(k)", "(k, p)"):
            self.all_differ(["pattern a; let n = 3; let o = 4; word w = k; row " + unit + behind + ";"
                             for behind in BEHIND])

    def test_lists_and_brackets_of_items(self):
        self.all_differ(["pattern a; word w = k; word v = k; row " + items + ";" for items in LISTS])
        for before, behind in (("word z = ", ";"), ("row rs ", ";"), ("row (p, ", ") 2;"), ("row ", ", p;")):
            for one, other in itertools.permutations(LISTS[:16], 2):
                self.two_trees(TOLD + before + one + behind, TOLD + before + other + behind)

    def test_items_wherever_they_stand(self):
        items = [unit + behind for unit, behind in zip(UNITS, itertools.cycle(BEHIND))] + list(LONES)
        for before, behind in (("word z = ", ";"), ("row rs k, ", ";"), ("row ", ", k;"), ("row (((", ") 2)) to end;"),
                               ("block d { row ws ", "; }")):
            for one, other in zip(items, items[1:] + items[:1]):
                self.two_trees(TOLD + before + one + behind, TOLD + before + other + behind)
                self.one_tree(TOLD + before + one + behind, squeezed(cut(TOLD + before + one + behind)))

    def test_which_row_an_item_stands_in(self):
        self.two_trees("pattern a; row k, p; row k;", "pattern a; row k; row p, k;")
        self.two_trees("pattern a; row rs k; row k;", "pattern a; row k; row rs k;")
        self.two_trees("pattern a; word w = k, p; row k;", "pattern a; word w = k; row p, k;")


class OneToken(PatternCase):
    """One token is another, falls, or is added: what is right then is another tree (brackets come and go in pairs)."""

    TOKENS = sorted({*cut(EVERYTHING), *PLAIN, *RESERVED, "c", "o", "v", "i", "5", "=", "_"})

    def changes(self, piece):
        """Every text in which one token of the piece is changed."""
        tokens = cut(piece)
        for place in range(len(tokens) + 1):
            for token in self.TOKENS:
                yield tokens[:place] + [token] + tokens[place:]
                if place < len(tokens) and tokens[place] != token:
                    yield tokens[:place] + [token] + tokens[place + 1:]
            if place < len(tokens):
                yield tokens[:place] + tokens[place + 1:]

    def sweep(self, told, piece):
        met = 0
        for tokens in self.changes(piece):
            other = codes(told + " ".join(tokens))
            if judge(other) == [0]:
                met += 1
                self.assertEqual(same(codes(told + piece), other), [0], (piece, tokens))
                self.assertEqual(same(other, codes(told + piece)), [0], (piece, tokens))
        self.assertGreater(met, 0, piece)

    def test_the_patterns_name_and_heads(self):
        for head in ("", "sizes x;", "sizes x, y;", "yarns x, y;", "let x = 1;", "let x = (1+2)*3;", "word x = k, p 2;",
                     "block x { }", "block x { off; }", "sizes x, y; let z = 1, 2;"):
            self.sweep("", "pattern a; " + head)

    def test_stats(self):
        told = "pattern a; let n = 3; let o = 4; block b { } block c { } "
        for stat in ("on n;", "on 3 round;", "row k;", "row rs k;", "repeat 2 { }", "until n { off; }", "work b;",
                     "work b 2;", "work b (n+1)*2;"):
            self.sweep(told, stat)

    def test_off_beside_others(self):
        # No other token makes a right text of it, so whole statements are set in its place.
        for stat in STATS:
            if stat != "off;":
                self.two_trees(TOLD + "on 1; off; on 2;", TOLD + "on 1; " + stat + " on 2;")

    def test_units_goals_and_lones(self):
        told = "pattern a; yarns red, blue; let n = 3; word w = k; word v = k; row "
        for items in ("k", "k2tog", "w", "cl 1/2", "cr 3/4", "hold h", "(k)", "(k, p)", "k 2", "k n", "k 2+n", "(k) 2",
                      "k to end", "k to last 2", "k to last n", "k to mark m", "take h", "yarn red", "mark m", "pass m",
                      "clear m", "turn", "fasten"):
            self.sweep(told, items + ";")


if __name__ == "__main__":
    unittest.main()
