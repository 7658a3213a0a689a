"""Each kind of fault, its place, and which of two is met first."""

import unittest

from waletexts.patterns import judge

from tests.helper import EVERYTHING, PatternCase, codes, names

HEAD = "pattern a; "


class Places(PatternCase):
    def test_bytes(self):
        self.fault(1, "@Apattern a;")
        self.fault(1, "pattern a; on @! 3;")
        self.fault(1, "pattern a;@:")

    def test_numbers(self):
        self.fault(2, "@00")
        self.fault(2, "pattern a; on @01; off;")
        self.fault(2, "pattern a; on @1048577")

    def test_something_else_is_wanted(self):
        self.fault(3, "@")
        self.fault(3, "@a")
        self.fault(3, "pattern a; @k; off;")
        self.fault(3, "pattern a; on 1@")

    def test_untold_names(self):
        self.fault(4, "pattern a; let n = @o;")
        self.fault(4, "pattern a; row @w; off;")
        self.fault(4, "pattern a; work @b")

    def test_names_told_already(self):
        self.fault(5, "pattern a; sizes s, @s; off;")
        self.fault(5, "pattern a; sizes s; @sizes t;")
        self.fault(5, "pattern a; yarns y; @yarns")
        self.fault(5, "pattern a; sizes s; yarns @s")

    def test_bounds(self):
        self.fault(6, "pattern a; row cl @0/1; off;")
        self.fault(6, "pattern a; row cl 1/@17")
        self.fault(6, "pattern a; on ((((((((@(")
        self.fault(6, "pattern a; sizes " + ",".join(names(16)) + ",@last_one")

    def test_numbers_of_sums(self):
        self.fault(7, "pattern a; let @n = 1, 2; off;")
        self.fault(7, "pattern a; sizes s, t; let @n = 1, 2, 3;")

    def test_the_end_is_the_texts_end_whatever_blanks_stand_there(self):
        for blanks in ("", " ", "\n\n", " # a comment", "#\n"):
            self.fault(3, blanks + "@")
            self.fault(3, "pattern a" + blanks + "@")
            self.fault(3, "pattern a; repeat 2 { off;" + blanks + "@")


class Wanted(PatternCase):
    """What stands is not what the grammar wants there."""

    def test_each_place_of_the_grammar(self):
        for marked in (
            "pattern a@", "pattern @;", "pattern a @= b;", "pattern a; @pattern b;", "pattern a;@;", "pattern a; @}",
            "pattern a; @b;", "pattern a; @3;", "pattern a; @k;", "pattern a; @round;", "pattern a; off; @)",
        ):
            self.fault(3, marked)

    def test_heads(self):
        for marked in (
            "sizes @;", "sizes s @t;", "sizes s,@;", "sizes s, @,", "sizes @3;", "sizes s@", "sizes s @= 1;",
            "yarns @;", "yarns y @z;", "yarns y,@;", "let @= 1;", "let n @1;", "let n =@;", "let n = 1,@;",
            "let n = 1 @2;", "let n = 1@", "let n = 1 @}", "word @= k;", "word w @k;", "word w =@;", "word w = k,@;",
            "word w = k @k;", "word w = k@)", "word w = @rs k;", "word w = @3;", "block @{ }", "block b@;",
            "block b @= k;", "block b {@", "block b { off;@", "block b { }@;", "block b { @3 }", "block b { @k; }",
            "block b { @{ } }", "block b @(",
        ):
            self.fault(3, HEAD + marked)

    def test_heads_in_braces(self):
        for head in ("sizes s;", "yarns y;", "let n = 1;", "word w = k;", "block c { }"):
            self.fault(3, HEAD + "block b { @" + head + " }")
            self.fault(3, HEAD + "block b { off; @" + head + " }")
            self.fault(3, HEAD + "repeat 2 { @" + head + " }")

    def test_heads_behind_the_first_statement(self):
        for head in ("sizes s;", "yarns y;", "let n = 1;", "word w = k;", "block c { }"):
            self.fault(3, HEAD + "off; @" + head)
            self.fault(3, HEAD + "block b { off; } repeat 1 { } @" + head)
            self.right(HEAD + "block b { off; } " + head)

    def test_stats(self):
        for marked in (
            "on@;", "on @round;", "on 1 @rs;", "on 1 round @round;", "on 1@", "on 1 @{", "row@;", "row rs@;",
            "row rs @ws k;", "row k @rs;", "row k@", "row @3;", "row @=k;", "row k,@;", "row @,k;",
            "repeat @{ }", "repeat 2@;", "repeat 2 {@", "repeat 2 { }@;", "repeat 2 @( )", "until @{ }", "until 2@;",
            "until 2 {@;", "until 2 @round { }", "work@;", "work @3;", "work b 2 @3;", "work b @to end;", "work b @{ }",
            "work b@", "off@", "off @3;", "off @off;", "work b@,", "work @k;",
        ):
            self.fault(3, HEAD + "block b { } " + marked)

    def test_row_items(self):
        for marked in (
            "k @k", "k 2 @3", "k 2 @to end", "k to@;", "k to @2", "k to @turn", "k to last@;",
            "k to last @end", "k to mark@;", "k to mark @3", "k to end @2", "k to end @to end", "cl@;", "cl 2@;",
            "cl 2/@;", "cl 2 @2", "cl @n/2", "cl 2/@n", "cl @(2)/2", "cl 2/2@/2", "cr 2@*2", "hold@;", "hold @3",
            "hold @k", "(@)", "(k@;", "(k @k)", "(k,@)", "(k@}", "k (@k)", "k (2@;", "k (@)", "take@;", "take h @2",
            "take h @to end", "yarn@;", "yarn y @2", "mark@;", "mark m @2", "pass@;", "pass m @to end", "clear@;",
            "clear m @3", "turn @2", "turn @to end", "fasten @2", "turn @turn", "@end", "@last 2", "@to end", "@round",
            "k@)", "w @= k",
        ):
            self.fault(3, HEAD + "yarns y; let n = 1; word w = k; row " + marked + ";" * (not marked.endswith(";")))

    def test_sums(self):
        for marked in ("@+1", "@-1", "1+@;", "1-@;", "1*@;", "1/@;", "1+@*2", "(@)", "(1@;", "1@)", "(1@,", "1 @1",
                       "n @n", "1 @n", "1 @(2)", "n @(1)", "(1) @2", "1@=", "@k", "@{", "(1@}"):
            self.fault(3, HEAD + "let n = 1; on " + marked + ";" * (not marked.endswith(";")))

    def test_every_text_cut_off_between_tokens_wants_more(self):
        tokens = EVERYTHING.split(" ")
        for amount in range(len(tokens)):
            text = " ".join(tokens[:amount])
            answer = judge(codes(text))
            # Only behind a whole head or statement that stands in no brace may a text end.
            may_end = amount >= 3 and tokens[amount - 1] in (";", "}")
            may_end = may_end and text.count("{") == text.count("}")
            self.assertEqual(answer, [0] if may_end else [-3, len(text)], text)


class MetFirst(PatternCase):
    def test_the_left_one(self):
        self.fault(4, HEAD + "row @w, 01, !")
        self.fault(2, HEAD + "row k @01, w, !")
        self.fault(1, HEAD + "row k @!, w 01")
        self.fault(3, HEAD + "row k @k w !")

    def test_a_names_fault_before_the_token_behind_it(self):
        self.fault(4, HEAD + "row @w!")
        self.fault(4, HEAD + "on @n 01")
        self.fault(4, HEAD + "work @b")
        self.fault(5, HEAD + "let n = 1; let @n!")
        self.fault(5, HEAD + "sizes s; @sizes!")
        self.fault(5, HEAD + "yarns s; @yarns")
        self.fault(6, HEAD + "row cl @17!")
        self.fault(6, HEAD + "on ((((((((@(!")
        self.fault(6, HEAD + "row " + ",".join("take " + h for h in names(16)) + ", take @last_one!")

    def test_told_already_before_a_name_too_many(self):
        for kind, amount in (("sizes", 16), ("yarns", 16)):
            first = names(amount)
            self.fault(5, HEAD + kind + " " + ",".join(first) + ",@" + first[0] + ";")
            self.fault(5, HEAD + kind + " " + ",".join(first) + ",@" + first[-1] + ";")
        for before, behind, amount in (("let ", "=1;", 256), ("word ", "=k;", 64), ("block ", "{}", 64)):
            first = names(amount)
            told = "".join(before + one + behind for one in first)
            self.fault(5, HEAD + told + before + "@" + first[0] + behind)
            self.fault(6, HEAD + told + before + "@last_one" + behind)

    def test_sums_and_sizes_at_the_lets_semicolon(self):
        self.fault(7, HEAD + "let @n = 1, 2; !")
        self.fault(7, HEAD + "let @n = 1, 2;# \x00")
        self.fault(7, HEAD + "let @n = 1, 2; let n = 01;")
        self.fault(3, HEAD + "let n = 1, 2@")
        self.fault(3, HEAD + "let n = 1, 2 @off;")
        self.fault(1, HEAD + "let n = 1, 2 @!;")
        self.fault(2, HEAD + "let n = 1, 2, @00;")
        self.fault(4, HEAD + "let n = 1, 2, @n;")
        self.fault(6, HEAD + "let n = 1, 2, ((((((((@(1;")
        self.fault(5, HEAD + "let n = 1; let @n = 1, 2;")

    def test_sizes_that_come_too_late(self):
        self.fault(7, HEAD + "let @n = 1, 2; sizes s, t;")
        self.fault(5, HEAD + "let n = 1; @sizes s, t;")


class NumbersOfSums(PatternCase):
    def test_one_or_as_many_as_sizes(self):
        for sizes in range(17):
            head = HEAD + ("sizes " + ",".join(names(sizes)) + "; " if sizes else "")
            for sums in range(1, 19):
                behind = "n = " + ", ".join(["1"] * sums) + ";"
                if sums in (1, sizes):
                    self.right(head + "let " + behind)
                else:
                    self.fault(7, head + "let @" + behind)


if __name__ == "__main__":
    unittest.main()
