"""Sums that are one tree and sums that are not: brackets that change nothing, and those that do."""

import itertools
import random
import unittest

from waletexts.patterns import same

from tests.helper import SIGNS, PatternCase, all_sums, codes, made_sum, pairs_of_brackets, tree

HEAD = "pattern a; let n = 1; let o = 2; block b { } "
PLACES = (
    ("let m = ", ";"), ("on ", ";"), ("on ", " round;"), ("repeat ", " { }"), ("until ", " { off; }"), ("work b ", ";"),
    ("row k ", ";"), ("row k to last ", ";"), ("row (k ", ", p) 2;"), ("word w = (k) ", ";"), ("row cl 1/2 ", ";"),
    ("row hold h ", ", turn;"),
)


class SameSums(PatternCase):
    def one_sum(self, text, other):
        self.one_tree(HEAD + "on " + text + ";", HEAD + "on " + other + ";")

    def two_sums(self, text, other):
        self.two_trees(HEAD + "on " + text + ";", HEAD + "on " + other + ";")

    def agrees(self, text, other):
        """Two sums are one tree here just if they are for Python, whose signs bind alike."""
        answer = same(codes(HEAD + "on " + text + ";"), codes(HEAD + "on " + other + ";"))
        self.assertEqual(answer, [int(tree(text) == tree(other))], (text, other))
        return answer

    def test_brackets_that_change_nothing(self):
        for text, other in (("(1+2)+3", "1+2+3"), ("(1)", "1"), ("((((((((n))))))))", "n"), ("(1+2)", "1+2"),
                            ("(1*2)+3", "1*2+3"), ("1+(2*3)", "1+2*3"), ("(1/2)*3", "1/2*3"), ("1-(2/3)-4", "1-2/3-4"),
                            ("((1-2)-3)-4", "1-2-3-4"), ("(1)*(2)", "1*2"), ("((1+2)*3)", "(1+2)*3"),
                            ("((1+2)*3)/4", "(1+2)*3/4"), ("1-((2-3))", "1-(2-3)"), ("( 1 + 2 ) + 3", "1+2+3")):
            self.one_sum(text, other)

    def test_brackets_that_change_it(self):
        for text, other in (("1-(2-3)", "1-2-3"), ("1/(2*3)", "1/2*3"), ("1+(2+3)", "1+2+3"), ("1*(2*3)", "1*2*3"),
                            ("(1+2)*3", "1+2*3"), ("1*(2+3)", "1*2+3"), ("1-(2+3)", "1-2+3"), ("1/(2/3)", "1/2/3"),
                            ("1-(2-(3-4))", "1-(2-3-4)"), ("1-(2-(3-4))", "1-(2-3)-4"), ("1+(2+3)+4", "1+(2+3+4)"),
                            ("1*2*(3*4)", "1*(2*3)*4"), ("(1+2)*(3+4)", "(1+2)*3+4")):
            self.two_sums(text, other)

    def test_what_they_come_to_is_all_one(self):
        for text, other in (("1+2", "2+1"), ("3", "1+2"), ("n", "1"), ("2*n", "n*2"), ("1*1", "1"), ("n-n", "0"),
                            ("1+0", "1"), ("1+1", "1*2")):
            self.two_sums(text, other)

    def test_one_token_changed(self):
        for text in ("1+2", "1-n*3", "(1+n)*2-o", "1-(2-n/(3+o))"):
            for place, sign in enumerate(text):
                for other in SIGNS if sign in SIGNS else ("7", "10", "n", "o", "1048576") * (sign not in "()"):
                    changed = text[:place] + other + text[place + 1:]
                    if changed != text:
                        self.two_sums(text, changed)

    def test_one_number_more(self):
        for sign in SIGNS:
            self.two_sums("1", "1" + sign + "1")
            self.two_sums("1" + sign + "1", "1" + sign + "1" + sign + "1")
            self.two_sums("2*(1" + sign + "1)", "2*(1" + sign + "1" + sign + "1)")

    def test_all_pairs_of_up_to_three_numbers(self):
        every = [text for numbers in ("1", "11", "111") for text in all_sums(numbers)]
        every += ["1" + "1".join(signs) + "1" for length in (1, 2) for signs in itertools.product(SIGNS, repeat=length)]
        met = {"1": 0, "0": 0}
        for text, other in itertools.product(every, repeat=2):
            met[str(self.agrees(text, other)[0])] += 1
        self.assertGreater(met["1"], len(every))
        self.assertGreater(met["0"], len(every))

    def test_each_pair_of_brackets_fallen(self):
        source = random.Random(17)
        met = {}
        for number in range(600):
            text = made_sum(source, source.randrange(1, 8))
            for first, last in pairs_of_brackets(text):
                met[self.agrees(text, text[:first] + text[first + 1:last] + text[last + 1:])[0]] = True
        self.assertEqual(sorted(met), [0, 1])

    def test_wherever_a_sum_stands(self):
        for before, behind in PLACES:
            for text, other, alike in (("(1)", "1", True), ("(1+2)+3", "1+2+3", True), ("1-(2-3)", "1-2-3", False),
                                       ("1/(2*3)", "1/2*3", False), ("1", "2", False), ("n", "o", False),
                                       ("1+2", "1*2", False), ("1", "1+1", False), ("(1+n)*2", "((1+n)*(2))", True)):
                self.compares(HEAD + before + text + behind, HEAD + before + other + behind, alike)

    def test_each_sum_of_a_let(self):
        told = "pattern a; sizes s, m, l; let n = "
        self.one_tree(told + "(1), 1+2*3, (4-5)-6;", told + "1, 1+(2*3), 4-5-6;")
        for other in ("2, 1+2*3, 4-5-6", "1, (1+2)*3, 4-5-6", "1, 1+2*3, 4-(5-6)", "1+2*3, 1, 4-5-6",
                      "1, 4-5-6, 1+2*3", "1"):
            self.two_trees(told + "1, 1+2*3, 4-5-6;", told + other + ";")

    def test_a_sums_brackets_and_an_items(self):
        self.one_tree(HEAD + "row (k) (2);", HEAD + "row (k) 2;")
        self.two_trees(HEAD + "row (k) (2);", HEAD + "row k (2);")
        self.two_trees(HEAD + "row (k 2);", HEAD + "row k (2);")

    def test_eight_deep(self):
        self.one_sum("(" * 8 + "1" + "+2)" * 8, "1" + "+2" * 8)
        self.two_sums("1-(" * 8 + "1-2" + ")" * 8, "1-(" * 8 + "1-3" + ")" * 8)
        self.two_sums("1-(" * 8 + "1-2" + ")" * 8, "1-(" * 7 + "1-1-2" + ")" * 7)
        self.two_sums("(" * 8 + "1" + "+2)*3" * 8, "(" * 8 + "2" + "+2)*3" * 8)


if __name__ == "__main__":
    unittest.main()
