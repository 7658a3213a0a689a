"""Right texts: every rule of the grammar, and blanks in every place."""

import unittest

from tests.helper import EVERYTHING, PLAIN, SCARF, PatternCase


class RightTexts(PatternCase):
    def test_the_printed_pattern(self):
        self.right(SCARF)

    def test_the_smallest(self):
        self.right("pattern a;")

    def test_everything(self):
        self.right(EVERYTHING)

    def test_heads(self):
        for head in (
            "sizes s;", "sizes s, m, l;", "yarns a;", "yarns a, b;", "let n = 1;", "let n = 1+2*3;",
            "word w = k;", "word w = k, (p, k) 2, turn;", "block b { }", "block b { off; }",
        ):
            self.right("pattern a; " + head)

    def test_heads_in_any_order(self):
        self.right("pattern a; block b { on 1; } word w = k; yarns y; sizes s, t; let n = 1, 2; block c { work b; }")
        self.right("pattern a; let n = 1; yarns y; word w = yarn y, k n;")

    def test_let_has_one_sum_or_as_many_as_sizes(self):
        self.right("pattern a; let n = 1;")
        self.right("pattern a; sizes s; let n = 1;")
        self.right("pattern a; sizes s, m, l; let n = 1; let o = 1, n, n+2;")

    def test_stats(self):
        for stat in (
            "on 3;", "on 3 round;", "on 3*2-1 round;", "row k;", "row rs k;", "row ws k, p;", "repeat 2 { }",
            "repeat 2 { off; on 1; }", "until 2+1 { row k; }", "until 0 { }", "work b;", "work b 3;", "work b n*2;",
            "work b (n);", "off;", "repeat 1 { until 2 { repeat n { work b; } } }",
        ):
            self.right("pattern a; let n = 1; block b { } " + stat)
            self.right("pattern a; let n = 1; block b { } block c { " + stat + " }")

    def test_units_with_nothing_a_sum_or_a_goal_behind(self):
        for unit in PLAIN + ["cl 2/3", "cr 1/16", "hold h", "w", "(k)", "(k, p 2, (w, turn) to end)"]:
            for behind in ("", " 3", " n", " n+1", " (n)", " (n+1)*2", " to end", " to last 2", " to last n*2+1",
                           " to last (1)", " to mark m"):
                self.right("pattern a; let n = 1; word w = k; row " + unit + behind + ";")
                self.right("pattern a; let n = 1; word w = k; row (p, " + unit + behind + ", p);")

    def test_lones(self):
        for lone in ("take h", "yarn y", "mark m", "pass m", "clear m", "turn", "fasten"):
            self.right("pattern a; yarns y; row " + lone + ";")
            self.right("pattern a; yarns y; word w = k, (" + lone + ", p) 2;")

    def test_sums(self):
        for written in ("0", "1", "n", "(1)", "1+2", "1-2-3", "2*3/4", "1+2*3-n/(n-1)", "((n))"):
            self.right("pattern a; let n = 1; on " + written + ";")

    def test_braces_with_nothing_in_them(self):
        self.right("pattern a; block b {} repeat 1 {} until 1 {}")

    def test_long_lists_are_no_deeper_than_short_ones(self):
        self.right("pattern a; row k" + ",k" * 8000 + ";")
        self.right("pattern a; on 1" + "+1" * 8000 + ";")
        self.right("pattern a; on 1" + "*1" * 8000 + ";")
        self.right("pattern a;" + "off;" * 4000)
        self.right("pattern a; block b {" + "off;" * 4000 + "}")
        self.right("pattern a; row " + ",".join(["(k)"] * 4000) + ";")
        self.right("pattern " + "a" * 16000 + ";")
        self.right("pattern a;" + "#\n" * 8000)


class Blanks(PatternCase):
    def test_blanks_and_comments_between_all_tokens(self):
        tokens = EVERYTHING.split(" ")
        for blank in (" ", "\n", "  \n ", "#\n", "# pattern ! ~ A { #\n", " # a\n\n# b\n "):
            self.right(blank + blank.join(tokens) + blank)

    def test_no_blanks_where_none_must_be(self):
        self.right("pattern a;sizes s,m;let n=20,24;word w=k3,p;block b{row rs(k,p)to end;}on 3round;work b2;"
                   "row ws cl2/2to last2,w(n);repeat n{}")

    def test_comment_at_the_end_without_a_line_end(self):
        self.right("pattern a;#")
        self.right("pattern a; # the end")
        self.right("# the beginning\npattern a;")

    def test_a_comment_ends_at_its_line_end(self):
        self.fault(3, "pattern a; # off;\n@k")
        self.fault(3, "pattern a # ;@")

    def test_a_blank_parts_what_would_be_one_token(self):
        self.fault(3, "@patte rn a;")
        self.fault(3, "pattern a @b;")
        self.fault(3, "pattern a#\n@b;")
        self.fault(3, "pattern a; on 1 @2;")


if __name__ == "__main__":
    unittest.main()
