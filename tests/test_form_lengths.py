"""How long a form may be: longer than its text, longer than a text may be, and what bounds it."""

import unittest

from waletexts.patterns import judge, print_form

from tests.helper import LONGEST_TEXT, PatternCase, codes

OPENED = "pattern a;" + "repeat1{" * 8


def filled(statement, deep):
    """As many of the statement as a text has room for, in so many braces; and how many they are."""
    opened = "pattern a;" + "repeat1{" * deep
    amount = (LONGEST_TEXT - len(opened) - deep) // len(statement)
    return opened + statement * amount + "}" * deep, amount


def braces_length(deep):
    """How long the form is of the pattern's name and of the braces alone."""
    return len("pattern a;\n") + sum(len("repeat 1 {\n") + len("}\n") + 4 * step for step in range(deep))


class Lengths(PatternCase):
    def test_longer_than_the_text(self):
        self.prints("pattern a;row k,p2;", "pattern a;\nrow k, p 2;\n")
        self.assertGreater(len(self.form(OPENED + "off;" + "}" * 8)), 2 * len(OPENED))

    def test_shorter_than_the_text(self):
        self.prints("pattern a;" + " " * 16000 + "off;", "pattern a;\noff;\n")
        self.prints("pattern a;\n" + "#\n" * 8000 + "off;", "pattern a;\noff;\n")
        self.prints("pattern a;on 1" + "+((1))" * 2000 + ";", "pattern a;\non 1" + "+1" * 2000 + ";\n")

    def test_just_as_long_as_a_text_may_be_and_longer(self):
        for length in (16383, 16384, 16385, 16386, 18000):
            name = "x" * (length - len("pattern ;\n") - 5 * 3000)
            form = codes("pattern " + name + ";\n" + "off;\n" * 3000)
            self.assertEqual(print_form(codes("pattern " + name + ";" + "off;" * 3000)), [length] + form)
            if length <= LONGEST_TEXT:
                self.assertEqual(judge(form), [0])
                self.assertEqual(print_form(form), [length] + form)
            else:
                self.assertEqual(judge(form), [-6, LONGEST_TEXT])
                self.assertEqual(print_form(form), [-6, LONGEST_TEXT])

    def test_much_longer_than_a_text_may_be(self):
        for statement, lines in (("on1;", ("on 1;",)), ("off;", ("off;",)), ("row k;", ("row k;",)),
                                 ("row k,k,k;", ("row k, k, k;",))):
            for deep in (0, 1, 8):
                self.fills(statement, lines, deep)
        for statement, lines in (("until1{}", ("until 1 {", "}")), ("repeat1{on1;}", ("repeat 1 {", "  on 1;", "}"))):
            for deep in (0, 7):
                self.fills(statement, lines, deep)

    def fills(self, statement, lines, deep):
        text, amount = filled(statement, deep)
        self.assertGreater(len(text), LONGEST_TEXT - len(statement))
        answer = print_form(codes(text))
        longer = amount * sum(2 * deep + len(line) + 1 for line in lines)
        self.assertEqual(answer[0], braces_length(deep) + longer)
        self.assertEqual(len(answer), answer[0] + 1)
        self.assertLessEqual(answer[0], 16 * len(text) + 64)
        inmost = "".join("  " * deep + line + "\n" for line in lines)
        self.assertIn(inmost * amount, "".join(map(chr, answer[1:])))

    def test_the_longest_for_its_text(self):
        # Eight braces deep a statement of four bytes has a line of 22: nothing makes more of its bytes.
        text, amount = filled("on1;", 8)
        self.assertEqual(len(self.form(text)), braces_length(8) + 22 * amount)
        self.assertGreater(len(self.form(text)), 5 * len(text))

    def test_the_bound_of_short_texts(self):
        for text in ("pattern a;", "pattern a;off;", "pattern a;on1;", "pattern a;repeat1{}", OPENED + "}" * 8,
                     OPENED + "on1;" + "}" * 8):
            self.assertLessEqual(len(self.form(text)), 16 * len(text) + 64)
            self.assertGreater(len(self.form(text)), len(text))


if __name__ == "__main__":
    unittest.main()
