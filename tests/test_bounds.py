"""Each bound, at it and one beyond it."""

import itertools
import unittest

from waletexts.patterns import judge

from tests.helper import SCARF, PatternCase, codes, names

HEAD = "pattern a; "

# Openings with their closings: a block only outermost, then statements' braces, then items' brackets, then sums'.
BLOCK = ("block b {", "}")
REPEAT = ("repeat 1 {", "}")
UNTIL = ("until 1 {", "}")


def nested(block, braces, row_brackets, sum_brackets, beyond=""):
    """A text with so many of each in one another; beyond, with its @, stands inmost where a sum's number would."""
    opened = (block * BLOCK[0] + "".join(itertools.islice(itertools.cycle((REPEAT[0], UNTIL[0])), braces))
              + "row " + "(" * row_brackets + "k " + "(" * sum_brackets)
    closed = ")" * sum_brackets + ")" * row_brackets + ";" + "}" * (braces + block)
    return HEAD + opened + (beyond or "1") + closed


class HowMany(PatternCase):
    def test_sizes_and_yarns(self):
        for word in ("sizes", "yarns"):
            self.right(HEAD + word + " " + ", ".join(names(16)) + ";")
            self.fault(6, HEAD + word + " " + ", ".join(names(16)) + ", @last_one;")

    def test_numbers_words_blocks(self):
        for before, behind, amount in (("let ", "=1;", 256), ("word ", "=k;", 64), ("block ", "{}", 64)):
            told = "".join(before + one + behind for one in names(amount))
            self.right(HEAD + told)
            self.fault(6, HEAD + told + before + "@last_one" + behind)

    def test_all_kinds_at_their_bounds_together(self):
        every = names(16 + 16 + 256 + 64 + 64)
        text = HEAD + "sizes " + ",".join(every[:16]) + ";yarns " + ",".join(every[16:32]) + ";"
        text += "".join("let " + one + "=1;" for one in every[32:288])
        text += "".join("word " + one + "=k;" for one in every[288:352])
        text += "".join("block " + one + "{}" for one in every[352:])
        text += "row " + ",".join("mark " + one for one in names(64)) + ";"
        text += "row " + ",".join("hold " + one for one in names(16)) + ";"
        self.right(text)

    def test_markers(self):
        words = itertools.cycle(("mark ", "pass ", "clear ", "k to mark "))
        stood = "row " + ", ".join(word + one for word, one in zip(words, names(64))) + "; "
        self.right(HEAD + stood)
        for word in ("mark ", "pass ", "clear ", "k to mark "):
            self.fault(6, HEAD + stood + "row " + word + "@last_one;")
            self.right(HEAD + stood + "row " + word + names(64)[0] + ", " + word + names(64)[63] + ";")
        self.right(HEAD + stood + "row take last_one, hold last_one;")
        self.fault(6, HEAD + "word w = " + stood[4:] + "block b { row mark @last_one; }")

    def test_holders(self):
        words = itertools.cycle(("take ", "hold "))
        stood = "row " + ", ".join(word + one for word, one in zip(words, names(16))) + "; "
        self.right(HEAD + stood)
        for word in ("take ", "hold "):
            self.fault(6, HEAD + stood + "row " + word + "@last_one;")
            self.right(HEAD + stood + "row " + word + names(16)[0] + ", " + word + names(16)[15] + ";")
        self.right(HEAD + stood + "row mark last_one;")
        self.fault(6, HEAD + "word w = " + stood[4:] + "block b { row hold @last_one; }")


class HowDeep(PatternCase):
    def test_braces(self):
        for brace in (REPEAT, UNTIL):
            self.right(HEAD + brace[0] * 8 + brace[1] * 8)
            self.fault(6, HEAD + brace[0] * 8 + brace[0].replace("{", "@{") + brace[1] * 9)
            self.right(HEAD + BLOCK[0] + brace[0] * 7 + brace[1] * 8)
            self.fault(6, HEAD + BLOCK[0] + brace[0] * 7 + brace[0].replace("{", "@{") + brace[1] * 9)

    def test_brackets_of_row_items(self):
        self.right(HEAD + "row " + "(" * 8 + "k" + ")" * 8 + ";")
        self.fault(6, HEAD + "row " + "(" * 8 + "@(k" + ")" * 9 + ";")
        self.right(HEAD + "word w = " + "(" * 8 + "k" + ")" * 8 + ";")
        self.fault(6, HEAD + "word w = " + "(" * 8 + "@(k" + ")" * 9 + ";")

    def test_brackets_of_sums(self):
        for before, behind in (("on ", ";"), ("let n = ", ";"), ("repeat ", "{ }"), ("row k ", ";"),
                               ("row k to last ", ";"), ("work b ", ";")):
            if before != "let n = ":
                before = "block b { } " + before
            self.right(HEAD + before + "(" * 8 + "1" + ")" * 8 + behind)
            self.fault(6, HEAD + before + "(" * 8 + "@(1" + ")" * 9 + behind)

    def test_kinds_mixed(self):
        for block, braces, row_brackets in itertools.product((0, 1), range(9), range(9)):
            sum_brackets = 8 - block - braces - row_brackets
            if sum_brackets >= 0:
                self.right(nested(block, braces, row_brackets, sum_brackets))
                self.fault(6, nested(block, braces, row_brackets, sum_brackets, "@(1)"))

    def test_a_ninth_of_another_kind(self):
        self.fault(6, HEAD + REPEAT[0] * 8 + "row @(k); " + "}" * 8)
        self.fault(6, HEAD + REPEAT[0] * 8 + "on @(1); " + "}" * 8)
        self.fault(6, HEAD + REPEAT[0] * 8 + "until @(1) { } " + "}" * 8)
        self.fault(6, HEAD + "row " + "(" * 8 + "k @(1)" + ")" * 8 + ";")

    def test_what_is_closed_no_longer_counts(self):
        self.right(HEAD + (REPEAT[0] * 8 + "}" * 8) * 3 + "row " + "(" * 8 + "k" + ")" * 8 + " " + "((((((((1))))))));")
        self.right(HEAD + "on " + "+".join(["((((((((1))))))))"] * 9) + ";")
        self.right(HEAD + "".join("block " + one + "{" + REPEAT[0] * 7 + "}" * 8 for one in names(9)))

    def test_very_deep(self):
        self.fault(6, HEAD + "on ((((((((@" + "(" * 16000)
        self.fault(6, HEAD + "row ((((((((@" + "(" * 16000)
        self.fault(6, HEAD + REPEAT[0] * 8 + "repeat 1 @{" + REPEAT[0] * 1500)

    def test_a_bracket_that_is_not_wanted_is_not_too_deep(self):
        self.fault(3, HEAD + REPEAT[0] * 8 + "off @(; " + "}" * 8)
        self.fault(3, HEAD + REPEAT[0] * 8 + "@{ " + "}" * 9)


class Crossings(PatternCase):
    def test_their_numbers(self):
        for word in ("cl", "cr"):
            for number in (1, 2, 15, 16):
                self.right(HEAD + "row %s %d/%d;" % (word, number, 17 - number))
            for number in (0, 17, 18, 100, 1048576):
                self.fault(6, HEAD + "row %s @%d/2;" % (word, number))
                self.fault(6, HEAD + "row %s 2/@%d;" % (word, number))
                self.fault(6, HEAD + "row %s @%d/%d;" % (word, number, number))
            self.fault(2, HEAD + "row %s @1048577/2;" % word)
            self.fault(2, HEAD + "row %s 1/@00;" % word)

    def test_other_numbers_are_not_bound_so(self):
        self.right(HEAD + "row cl 1/1 0, cr 1/1 17, k 0, k 17;")


class HowLong(PatternCase):
    def filled(self, text, length):
        return codes(text) + [32] * (length - len(text))

    def test_at_it_and_beyond_it(self):
        for text in (SCARF, "pattern a;"):
            self.assertEqual(judge(self.filled(text, 16383)), [0])
            self.assertEqual(judge(self.filled(text, 16384)), [0])
            self.assertEqual(judge(self.filled(text, 16385)), [-6, 16384])
            self.assertEqual(judge(self.filled(text, 20000)), [-6, 16384])

    def test_whatever_stands_in_it(self):
        for text in ("", "A", "00", "a", "pattern a; row x;", "pattern a; let n = 1, 2;", "\x00\xff"):
            self.assertEqual(judge(self.filled(text, 16385)), [-6, 16384])
            self.assertEqual(judge(self.filled(text, 20000)), [-6, 16384])
            self.assertNotEqual(judge(self.filled(text, 16384))[0], -6)
        for byte in (0, 10, 35, 40, 48, 57, 97, 255):
            self.assertEqual(judge([byte] * 16385), [-6, 16384])
            self.assertEqual(judge([byte] * 20000), [-6, 16384])

    def test_other_faults_at_the_last_byte(self):
        self.assertEqual(judge(self.filled("pattern a", 16384)), [-3, 16384])
        self.assertEqual(judge(self.filled("pattern a;", 16383) + codes("!")), [-1, 16383])


if __name__ == "__main__":
    unittest.main()
