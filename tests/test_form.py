"""The form of whole patterns: lines and how deep they stand, heads, statements, braces."""

import unittest

from waletexts.patterns import print_form

from tests.helper import EVERYTHING, SCARF, Maker, PatternCase, codes, cut, squeezed

TOLD = "pattern a;\nlet n = 1;\nblock b {\n}\n"

EVERYTHING_FORM = """pattern all;
sizes s, m;
yarns red, blue;
let n = 20, 24;
let o = (n+2)*3/4-n;
word rib = k, p 2;
word both = rib n, (rib, k2tog) to end;
block none {
}
block edge {
  on 3;
  row rs (k, p) to end;
  repeat 2 {
    off;
  }
  work none;
}
on n*2+2;
on 7 round;
row k;
row rs cl 1/16, cr 2/2 3, hold h, hold h 2, hold h to end;
row ws k to last 2*n, p to mark a, both 1+1, take h, yarn red, mark a, pass a, clear a, turn, fasten;
until n {
  work edge 2;
  work edge n;
  work edge 3;
}
repeat 0 {
}
off;
"""


class PrintedPattern(PatternCase):
    def test_it_is_its_own_form_byte_by_byte(self):
        self.assertEqual(print_form(codes(SCARF)), [len(SCARF)] + codes(SCARF))

    def test_without_any_blank_that_may_be_left_out(self):
        text = ("pattern scarf;sizes s,m;let n=20,24;word rib=k,p;block edge{row rs(k,p)to end;}on n*2+2;work edge2;"
                "row ws sl,rib3,(yo,ssk)to last2,k2;")
        self.assertEqual(squeezed(cut(SCARF)), text)
        self.prints(text, SCARF)

    def test_blanks_and_comments_between_all_tokens(self):
        for blank in (" ", "\n", "   ", " \n\n ", "#\n", "# off; A ! 01 {\n", "\n  # one\n# two\n  "):
            self.prints(blank + blank.join(cut(SCARF)) + blank, SCARF)

    def test_on_one_line(self):
        self.prints(SCARF.replace("\n", " "), SCARF)
        self.prints(" ".join(cut(SCARF)), SCARF)

    def test_a_comment_at_the_end(self):
        self.prints(SCARF + "#", SCARF)
        self.prints(SCARF + "# the end", SCARF)
        self.prints(SCARF[:-1], SCARF)


class WholePatterns(PatternCase):
    def test_everything(self):
        self.prints(EVERYTHING, EVERYTHING_FORM)
        self.prints(squeezed(cut(EVERYTHING)), EVERYTHING_FORM)
        self.prints("\n# a comment\n".join(cut(EVERYTHING)), EVERYTHING_FORM)

    def test_the_smallest(self):
        self.prints("pattern a;", "pattern a;\n")
        self.prints(" # a\n pattern # b\n a_b # c\n ; # d", "pattern a_b;\n")

    def test_heads_alone(self):
        self.prints("pattern a;yarns y;let n=1;word w=k;", "pattern a;\nyarns y;\nlet n = 1;\nword w = k;\n")

    def test_without_heads(self):
        self.prints("pattern a;on 3;off;", "pattern a;\non 3;\noff;\n")

    def test_the_order_is_kept(self):
        self.prints(
            "pattern a;block b{on 1;}word w=k;yarns y,x;sizes s,r;let n=1,2;block c{work b;}off;on 2;off;",
            "pattern a;\nblock b {\n  on 1;\n}\nword w = k;\nyarns y, x;\nsizes s, r;\nlet n = 1, 2;\n"
            "block c {\n  work b;\n}\noff;\non 2;\noff;\n",
        )

    def test_many_made_by_chance(self):
        maker = Maker(5)
        for number in range(400):
            tokens = maker.text()
            form = self.form(squeezed(tokens))
            self.assertEqual(self.form(" ".join(tokens)), form)
            self.assertEqual(self.form("\n#;\n".join(tokens)), form)
            without_brackets = [token for token in tokens if token not in "()"]
            self.assertEqual([token for token in cut(form) if token not in "()"], without_brackets)
            self.looks_like_a_form(form)

    def looks_like_a_form(self, form):
        self.assertTrue(form.endswith("\n"))
        deep = 0
        for line in form[:-1].split("\n"):
            deep -= line.endswith("}")
            self.assertEqual(len(line) - len(line.lstrip(" ")), 2 * deep, form)
            deep += line.endswith("{")
            self.assertRegex(line, r"^ *(}|[a-z][^;{}]* \{|[a-z][^;{}]*[^ ;{}];)$")
            self.assertNotRegex(line.lstrip(" "), r"  |\( | [,;)]|,[^ ]|[-+*/] | [-+*/]|[a-z_][(]|[)][a-z0-9_(]")
        self.assertEqual(deep, 0)


class Heads(PatternCase):
    def head(self, text, form):
        self.prints("pattern a;" + text, "pattern a;\n" + form + "\n")

    def test_sizes_and_yarns(self):
        for word in ("sizes", "yarns"):
            self.head(word + " s;", word + " s;")
            self.head(word + "\n s ;", word + " s;")
            self.head(word + " s,m;", word + " s, m;")
            self.head(word + " s , m_ , l#\n;", word + " s, m_, l;")

    def test_let(self):
        self.head("let n=1;", "let n = 1;")
        self.head("let n = ( 1 + 2 ) ;", "let n = 1+2;")
        self.head("let n=(1+2)*3;", "let n = (1+2)*3;")
        self.head("sizes s;let n=1;", "sizes s;\nlet n = 1;")
        self.head("sizes s,m,l;let n=1;let o=n,n +1,( 2*n);", "sizes s, m, l;\nlet n = 1;\nlet o = n, n+1, 2*n;")

    def test_word(self):
        self.head("word w=k;", "word w = k;")
        self.head("word w=k,p2,(k,turn)to end;", "word w = k, p 2, (k, turn) to end;")
        self.head("word w=(k);", "word w = (k);")

    def test_block(self):
        self.head("block b{}", "block b {\n}")
        self.head("block b{off;on 3;}", "block b {\n  off;\n  on 3;\n}")
        self.head("block b{off;}block c{work b;}", "block b {\n  off;\n}\nblock c {\n  work b;\n}")


class Stats(PatternCase):
    def stat(self, text, *lines):
        """The statement has these lines: at the top, in a block, and in the braces of other statements."""
        def set_in(deep):
            return "".join(deep * "  " + line + "\n" for line in lines)

        self.prints(TOLD + text, TOLD + set_in(0))
        self.prints(TOLD + "block c{" + text + "}", TOLD + "block c {\n" + set_in(1) + "}\n")
        self.prints(
            TOLD + "repeat 2{" + text + "until 3{" + text + "}" + text + "}",
            TOLD + "repeat 2 {\n" + set_in(1) + "  until 3 {\n" + set_in(2) + "  }\n" + set_in(1) + "}\n",
        )

    def test_on(self):
        self.stat("on 3;", "on 3;")
        self.stat("on(n);", "on n;")
        self.stat("on 3round;", "on 3 round;")
        self.stat("on(n+1)*2 round;", "on (n+1)*2 round;")
        self.stat("on 2*(n+1)round;", "on 2*(n+1) round;")

    def test_row(self):
        self.stat("row k;", "row k;")
        self.stat("row rs k;", "row rs k;")
        self.stat("row ws k,p;", "row ws k, p;")
        self.stat("row(k);", "row (k);")
        self.stat("row rs(k);", "row rs (k);")
        self.stat("row ws((k,p),p);", "row ws ((k, p), p);")

    def test_repeat_and_until(self):
        for word in ("repeat", "until"):
            self.stat(word + " 2{}", word + " 2 {", "}")
            self.stat(word + "(n){off;}", word + " n {", "  off;", "}")
            self.stat(word + "(n+1)*2{off;off;}", word + " (n+1)*2 {", "  off;", "  off;", "}")
            self.stat(word + " 2*(n+1){off;}", word + " 2*(n+1) {", "  off;", "}")

    def test_work(self):
        self.stat("work b;", "work b;")
        self.stat("work b2;", "work b 2;")
        self.stat("work b n;", "work b n;")
        self.stat("work b(n);", "work b n;")
        self.stat("work b(n+1)*2;", "work b (n+1)*2;")

    def test_off(self):
        self.stat("off;", "off;")
        self.stat("off\n;", "off;")

    def test_thousands_one_behind_another(self):
        self.prints("pattern a;" + "off;" * 4000, "pattern a;\n" + "off;\n" * 4000)
        self.prints("pattern a;block b{" + "off;" * 4000 + "}", "pattern a;\nblock b {\n" + "  off;\n" * 4000 + "}\n")
        self.prints("pattern a;" + "repeat 1{}" * 1600, "pattern a;\n" + "repeat 1 {\n}\n" * 1600)


class Braces(PatternCase):
    def test_with_nothing_in_them(self):
        self.prints("pattern a;block b{}", "pattern a;\nblock b {\n}\n")
        self.prints("pattern a;repeat 1{}", "pattern a;\nrepeat 1 {\n}\n")
        self.prints("pattern a;until 1{# nothing\n}", "pattern a;\nuntil 1 {\n}\n")
        self.prints("pattern a;block b{repeat 1{}}", "pattern a;\nblock b {\n  repeat 1 {\n  }\n}\n")
        self.prints(
            "pattern a;repeat 1{until 2{}repeat 3{}off;}",
            "pattern a;\nrepeat 1 {\n  until 2 {\n  }\n  repeat 3 {\n  }\n  off;\n}\n",
        )

    def test_up_to_eight_deep(self):
        for first in ("repeat 1", "until 2", "block b"):
            for deep in range(1, 9):
                opening = [first] + ["repeat n", "until 3"] * 4
                text = "pattern a;let n=1;" + "".join(opening[step] + "{off;" for step in range(deep)) + "off;}" * deep
                lines = ["pattern a;", "let n = 1;"]
                for step in range(deep):
                    lines += ["  " * step + opening[step] + " {", "  " * (step + 1) + "off;"]
                for step in reversed(range(deep)):
                    lines += ["  " * (step + 1) + "off;", "  " * step + "}"]
                self.prints(text, "\n".join(lines) + "\n")

    def test_in_one_another_with_nothing_in_them(self):
        for deep in range(1, 9):
            opened = "".join("  " * step + "repeat 1 {\n" for step in range(deep))
            closed = "".join("  " * step + "}\n" for step in reversed(range(deep)))
            self.prints("pattern a;" + "repeat 1{" * deep + "}" * deep, "pattern a;\n" + opened + closed)

    def test_what_follows_stands_no_deeper(self):
        self.prints(
            "pattern a;repeat 1{repeat 2{off;}}off;until 1{off;}",
            "pattern a;\nrepeat 1 {\n  repeat 2 {\n    off;\n  }\n}\noff;\nuntil 1 {\n  off;\n}\n",
        )


if __name__ == "__main__":
    unittest.main()
