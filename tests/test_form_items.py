"""The form of items: units with what stands behind them, goals, lones, brackets in one another."""

import unittest

from tests.helper import PLAIN, PatternCase

HEAD = "pattern a;\nyarns y;\nlet n = 1;\nword w = k;\n"

# What may stand behind a unit, with as few blanks as may be behind a bracket, and in its form.
BEHIND = (
    ("", ""), (" 3", " 3"), (" n", " n"), ("(3)", " 3"), ("(n)", " n"), ("(n+1)", " n+1"), ("(n+1)*2", " (n+1)*2"),
    (" 2*(n+1)", " 2*(n+1)"), (" to end", " to end"), (" to last2", " to last 2"), (" to last n", " to last n"),
    (" to last(2)", " to last 2"), (" to last(n+1)*2", " to last (n+1)*2"), (" to mark m", " to mark m"),
    (" to mark n", " to mark n"), (" # a\nto\n\nend", " to end"),
)
CROSSINGS = (("cl2/3", "cl 2/3"), ("cr1/16", "cr 1/16"), ("cl 16 / 1", "cl 16/1"), ("cr\n4#\n/#\n4", "cr 4/4"))
LONES = ("take h", "yarn y", "mark m", "pass m", "clear m", "turn", "fasten")


class Items(PatternCase):
    def items(self, text, form):
        """The items have this form in rows, in a word, and in brackets."""
        for before, behind in (("row ", ""), ("row rs ", ""), ("row ws ", ""), ("word v = ", ""), ("row (", ")"),
                               ("word v = k, (", ") to end"), ("row ((", ") 2, p)")):
            self.prints(HEAD + before + text + behind + ";", HEAD + before + form + behind + ";\n")

    def test_plain_words(self):
        for word in PLAIN:
            for text, form in BEHIND:
                self.items(word + text, word + form)

    def test_a_number_right_behind_a_word(self):
        self.items("k3", "k 3")
        self.items("sssk12", "sssk 12")
        self.items("k2tog", "k2tog")
        self.items("k2tog 2", "k2tog 2")
        self.items("k2,w3", "k 2, w 3")

    def test_crossings(self):
        for crossing, crossing_form in CROSSINGS:
            for text, form in BEHIND:
                self.items(crossing + text, crossing_form + form)

    def test_holders_and_words(self):
        for unit in ("hold h", "hold k_", "w"):
            for text, form in BEHIND:
                self.items(unit + text, unit + form)

    def test_brackets(self):
        for unit, unit_form in (("(k)", "(k)"), ("( k , p )", "(k, p)"),
                                ("(k,(p,w)to end,turn)", "(k, (p, w) to end, turn)")):
            for text, form in BEHIND:
                self.items(unit + text, unit_form + form)
                self.items(unit + text.lstrip(" "), unit_form + form)

    def test_lones(self):
        for lone in LONES:
            self.items(lone, lone)
            self.items(lone.replace(" ", "\n# a\n") + "\n", lone)
            self.items("k," + lone + ",(" + lone + ")2", "k, " + lone + ", (" + lone + ") 2")

    def test_several(self):
        self.items("k,p", "k, p")
        self.items("k , p2 ,turn", "k, p 2, turn")
        self.items(",".join(LONES), ", ".join(LONES))
        self.items("k to end,p to last 2,yo to mark m,w", "k to end, p to last 2, yo to mark m, w")

    def test_brackets_of_items_are_kept(self):
        self.items("(k)", "(k)")
        self.items("((k))", "((k))")
        self.items("(((k,p)))2", "(((k, p))) 2")
        self.items("((k)(2))((3))", "((k) 2) 3")
        self.items("((k)to end,(p))to mark m", "((k) to end, (p)) to mark m")

    def test_brackets_up_to_eight_deep(self):
        for behind, behind_form in (("", ""), ("2", " 2"), ("(n+1)", " n+1"), ("to end", " to end")):
            for deep in range(1, 8):
                text = "(k," * deep + "p" + (")" + behind) * deep
                form = "(k, " * deep + "p" + (")" + behind_form) * deep
                self.prints(HEAD + "row rs " + text + ";", HEAD + "row rs " + form + ";\n")
        deepest = "(" * 8 + "k" + ")" * 8 + ";"
        self.prints("pattern a;row" + deepest, "pattern a;\nrow " + deepest + "\n")

    def test_thousands(self):
        self.prints("pattern a;row k" + ",k" * 8000 + ";", "pattern a;\nrow k" + ", k" * 8000 + ";\n")
        self.prints("pattern a;word w=k" + ",k" * 8000 + ";", "pattern a;\nword w = k" + ", k" * 8000 + ";\n")
        self.prints("pattern a;row(k" + ",(p)2" * 3000 + ")3;", "pattern a;\nrow (k" + ", (p) 2" * 3000 + ") 3;\n")
        self.prints("pattern a;row p" + ",k to end" * 1500 + ";", "pattern a;\nrow p" + ", k to end" * 1500 + ";\n")


if __name__ == "__main__":
    unittest.main()
