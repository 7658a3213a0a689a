"""The form of sums: no blanks, and brackets only where they must be."""

import itertools
import random
import unittest

from tests.helper import SIGNS, PatternCase, all_sums, made_sum, pairs_of_brackets, tree

HEAD = "pattern a;\nlet n = 1;\nlet o = 2;\nblock b {\n}\n"


class Sums(PatternCase):
    def sum_form(self, text):
        form = self.form(HEAD + "on " + text + ";")
        self.assertEqual((form[:len(HEAD) + 3], form[-2:]), (HEAD + "on ", ";\n"))
        return form[len(HEAD) + 3:-2]

    def sums(self, text, form):
        self.assertEqual(self.sum_form(text), form, text)

    def is_least(self, text):
        """The form of the sum is the same tree, and without any pair of its brackets it would be another."""
        form = self.sum_form(text)
        self.assertEqual(tree(form), tree(text), text)
        for first, last in pairs_of_brackets(form):
            self.assertNotEqual(tree(form[:first] + form[first + 1:last] + form[last + 1:]), tree(text), text)

    def test_single_numbers_and_names(self):
        for one in ("0", "1", "9", "10", "1048576", "n", "o"):
            for brackets in range(9):
                self.sums("(" * brackets + one + ")" * brackets, one)
                self.sums("( " * brackets + one + "\n)" * brackets, one)

    def test_no_blanks(self):
        self.sums("1 + 2 - n", "1+2-n")
        self.sums("1 * 2 / # a\n n", "1*2/n")
        self.sums(" ( 1 + 2 ) * ( 3 - n ) ", "(1+2)*(3-n)")

    def test_without_brackets_nothing_changes(self):
        for length in range(1, 5):
            for signs in itertools.product(SIGNS, repeat=length):
                text = "1" + "".join(sign + str(number) for number, sign in enumerate(signs, start=2))
                self.sums(text, text)

    def test_each_sign_on_the_left_of_each(self):
        kept = {"+*", "-*", "+/", "-/"}
        for inner, outer in itertools.product(SIGNS, repeat=2):
            form = "(1%s2)%s3" if inner + outer in kept else "1%s2%s3"
            self.sums("(1%s2)%s3" % (inner, outer), form % (inner, outer))
            self.sums("((1)%s(2))%s(3)" % (inner, outer), form % (inner, outer))
            self.sums("((((1%s2))))%s3" % (inner, outer), form % (inner, outer))

    def test_each_sign_on_the_right_of_each(self):
        fallen = {"+*", "-*", "+/", "-/"}
        for outer, inner in itertools.product(SIGNS, repeat=2):
            form = "1%s2%s3" if outer + inner in fallen else "1%s(2%s3)"
            self.sums("1%s(2%s3)" % (outer, inner), form % (outer, inner))
            self.sums("(1)%s((2)%s(3))" % (outer, inner), form % (outer, inner))
            self.sums("1%s((((2%s3))))" % (outer, inner), form % (outer, inner))

    def test_brackets_about_the_whole(self):
        self.sums("(1+2)", "1+2")
        self.sums("((1*2))", "1*2")
        self.sums("(((1+2)*3))", "(1+2)*3")
        self.sums("((((((((1+2))))))))", "1+2")

    def test_all_of_up_to_four_numbers(self):
        for amount in range(1, 5):
            for text in all_sums("1234"[:amount]):
                self.is_least(text)

    def test_longer_ones_made_by_chance(self):
        source = random.Random(11)
        for number in range(1000):
            self.is_least(made_sum(source, source.randrange(1, 9)))

    def test_chains_from_the_left(self):
        self.sums("((1-2)-3)-4", "1-2-3-4")
        self.sums("(1-2)-(3-4)", "1-2-(3-4)")
        self.sums("1-(2-(3-4))", "1-(2-(3-4))")
        self.sums("((1/2)*3)/4", "1/2*3/4")
        self.sums("(1/2)/(3/4)", "1/2/(3/4)")
        self.sums("1/(2/(3/4))", "1/(2/(3/4))")
        self.sums("(1+2*3)+4", "1+2*3+4")
        self.sums("(1+2)*3+4", "(1+2)*3+4")
        self.sums("((1+2)*3+4)*5", "((1+2)*3+4)*5")
        self.sums("((1+2)*3)*4", "(1+2)*3*4")
        self.sums("1+((2+3)*4)", "1+(2+3)*4")
        self.sums("1+((2+3)+4)", "1+(2+3+4)")
        self.sums("(1+2)+(3*4)-(5-6)", "1+2+3*4-(5-6)")
        self.sums("(1*2)+(3*4)", "1*2+3*4")

    def test_eight_deep(self):
        self.sums("1-(" * 8 + "1-2" + ")" * 8, "1-(" * 8 + "1-2" + ")" * 8)
        self.sums("(" * 8 + "1" + "+2)*3" * 8, "(" * 8 + "1" + "+2)*3" * 8)
        self.sums("(" * 8 + "1" + "+2)" * 8, "1" + "+2" * 8)

    def test_thousands_of_numbers(self):
        for sign in SIGNS:
            self.sums("1" + (sign + "1") * 8000, "1" + (sign + "1") * 8000)
            self.sums("(1" + (sign + "(1)") * 3000 + ")" + sign + "1", "1" + (sign + "1") * 3001)
        self.sums("1" + "+2*3-n/o" * 1500, "1" + "+2*3-n/o" * 1500)
        self.sums("1" + "-(2-3)*(4)" * 1500, "1" + "-(2-3)*4" * 1500)
        self.sums("1-(1" + "+1" * 7000 + ")", "1-(1" + "+1" * 7000 + ")")

    def test_wherever_a_sum_stands(self):
        for before, behind in (("let m = ", ";"), ("on ", ";"), ("on ", " round;"), ("repeat ", " {\n}"),
                               ("until ", " {\n}"), ("work b ", ";"), ("row k ", ";"), ("row k to last ", ";"),
                               ("row (k ", ", p) 2;"), ("word w = (k) ", ";"), ("row cl 1/2 ", ";"),
                               ("row hold h ", ";")):
            for text, form in (("(1)", "1"), ("( n )", "n"), ("(1+2)", "1+2"), ("( 1 + n )*2", "(1+n)*2"),
                               ("2 - (1*3)", "2-1*3"), ("2-((1-3))", "2-(1-3)"), ("(2/(n))/(3/4)", "2/n/(3/4)")):
                self.prints(HEAD + before + text + behind, HEAD + before + form + behind + "\n")

    def test_each_sum_of_a_let_by_itself(self):
        self.prints(
            "pattern a;sizes s,m,l;let n=(1),(1+2)*3,1-(2-3);",
            "pattern a;\nsizes s, m, l;\nlet n = 1, (1+2)*3, 1-(2-3);\n",
        )


if __name__ == "__main__":
    unittest.main()
