"""Tokens: digit words, words, numbers, signs, and bytes that can't be."""

import unittest

from waletexts.patterns import judge

from tests.helper import PLAIN, RESERVED, PatternCase, codes

DIGIT_WORDS = ("k2tog", "k3tog", "p2tog", "m1l", "m1r")
HEAD = "pattern a; "


class DigitWords(PatternCase):
    def test_by_themselves(self):
        for word in DIGIT_WORDS:
            for behind in (";", " ;", ",k;", " 3;", "#\n;", "\n2;", "(1);", " to end;"):
                self.right(HEAD + "row " + word + behind)

    def test_with_a_digit_a_letter_or_an_underscore_right_behind(self):
        # k2togx is k, 2, togx; m1lx is m, 1, lx, and m is a name.
        for word in ("k2tog", "k3tog", "p2tog"):
            for behind in ("x", "k", "3", "0", "_", "_a"):
                self.fault(3, HEAD + "row " + word[:2] + "@" + word[2:] + behind + ";")
        for word in ("m1l", "m1r"):
            for behind in ("x", "l", "3", "0", "_"):
                self.fault(4, HEAD + "row @" + word + behind + ";")
                self.fault(3, "pattern m@" + word[1:] + behind + ";")
            self.right(HEAD + "word m = k; row m1; row m 1, " + word + ";")

    def test_a_byte_that_is_no_small_letter_right_behind(self):
        for word in DIGIT_WORDS:
            self.fault(1, HEAD + "row " + word + "@A;")
            self.fault(1, HEAD + "row " + word + "@\x00;")

    def test_only_where_a_token_begins(self):
        self.fault(4, HEAD + "row @xk2tog;")
        self.fault(3, HEAD + "word xk = k; row xk2@tog;")
        self.fault(3, HEAD + "row k3@k2tog;")

    def test_cut_off_by_the_end(self):
        self.fault(3, HEAD + "row k2@to")
        self.fault(3, HEAD + "row k2tog@")
        self.fault(4, HEAD + "row @m1")
        self.fault(3, HEAD + "row m1l@")

    def test_they_are_no_names(self):
        for word in DIGIT_WORDS:
            self.fault(3, "pattern @" + word + ";")
            self.fault(3, HEAD + "on @" + word + ";")


class Words(PatternCase):
    def test_k3_and_tw3(self):
        self.right(HEAD + "row k3;")
        self.right(HEAD + "word tw = k; row tw3, tw 3;")
        self.fault(3, HEAD + "let tw@3 = 1;")
        self.fault(3, "pattern tw@3;")

    def test_letters_and_underscores(self):
        for word in ("b", "abc_", "a_b", "a__", "kk", "kp_", "pattern_", "patterns", "z"):
            self.right("pattern " + word + ";")
        self.fault(1, "pattern @_a;")
        self.fault(1, "pattern a@A;")

    def test_names_that_differ_in_one_byte_or_in_length_are_others(self):
        different = ["x" + sign for sign in "abcdefghijklmnopqrstuvwxyz_"] + ["x", "x__", "xaa", "xa_", "x_a"]
        self.right(HEAD + "".join("let " + word + " = 1; " for word in different))
        for word in different:
            self.fault(4, HEAD + "".join("let %s = 1; " % other for other in different if other != word) + "on @" + word)

    def test_words_of_the_language_are_no_names(self):
        for word in RESERVED + PLAIN:
            self.fault(3, "pattern @" + word + ";")
            self.fault(3, HEAD + "let @" + word + " = 1;")
            self.fault(3, HEAD + "row mark @" + word + ";")
            self.fault(3, HEAD + "on @" + word + ";")

    def test_a_longer_word_is_a_name(self):
        for word in RESERVED + PLAIN:
            if word not in DIGIT_WORDS:
                self.right("pattern " + word + "_;")
                self.right("pattern " + word + "x;")


class Numbers(PatternCase):
    def test_right_ones(self):
        for number in ("0", "1", "9", "10", "100", "999999", "1000000", "1048575", "1048576"):
            self.right(HEAD + "on " + number + ";")

    def test_too_large(self):
        for number in ("1048577", "1048580", "1050000", "2000000", "9999999", "10000000", "10485760", "9" * 5000):
            self.fault(2, HEAD + "on @" + number + ";")

    def test_begun_with_0(self):
        for number in ("00", "01", "007", "01048577", "0" * 5000):
            self.fault(2, HEAD + "on @" + number + ";")

    def test_the_place_is_the_first_digit(self):
        self.fault(2, HEAD + "on 1+@01")
        self.fault(2, HEAD + "row k@01;")
        self.fault(2, HEAD + "row cl @01/2;")

    def test_its_own_fault_before_that_something_else_is_wanted(self):
        self.fault(2, "@01 pattern a;")
        self.fault(2, "pattern @1048577;")
        self.fault(3, "pattern @1048576;")

    def test_a_letter_right_behind(self):
        self.right(HEAD + "on 3round;")
        self.fault(3, HEAD + "on 3@x;")
        self.fault(1, HEAD + "on 3@_;")
        self.right(HEAD + "row k to last0;")


class Signs(PatternCase):
    def test_each_is_a_token(self):
        for sign in ",;(){}[]=+-*/":
            self.fault(3, HEAD + "@" + sign)
            self.fault(3, "@" + sign)

    def test_square_brackets_are_wanted_nowhere(self):
        for marked in ("row @[k];", "on @[1];", "row k @[2];", "on 1 @];", "row k@];", "repeat 1 @[ ]", "@[", "@]"):
            self.fault(3, HEAD + marked)


class BytesThatCannotBe(PatternCase):
    BEGINNING = codes("abcdefghijklmnopqrstuvwxyz0123456789,;(){}[]=+-*/")
    BLANKS = [10, 32, 35]

    def test_every_byte_where_a_token_begins(self):
        for byte in range(256):
            first = [-3, 0] if byte in self.BEGINNING else [-3, 1] if byte in self.BLANKS else [-1, 0]
            self.assertEqual(judge([byte]), first, byte)
            middle = [-1, 11] if byte not in self.BEGINNING + self.BLANKS else [-3, 11]
            if byte not in self.BLANKS:
                self.assertEqual(judge(codes(HEAD) + [byte] + codes(" on 1;")), middle, byte)
            last = [0] if byte in self.BLANKS else middle
            self.assertEqual(judge(codes(HEAD) + [byte]), last, byte)

    def test_every_byte_right_behind_a_word_and_a_number(self):
        for byte in range(256):
            if byte not in self.BEGINNING + self.BLANKS and byte != ord("_"):
                self.assertEqual(judge(codes("pattern a") + [byte]), [-1, 9], byte)
            if byte not in self.BEGINNING + self.BLANKS:
                self.assertEqual(judge(codes("pattern a; on 1") + [byte]), [-1, 15], byte)

    def test_every_byte_in_a_comment(self):
        for byte in range(256):
            wanted = [0] if byte == 10 or 32 <= byte <= 126 else [-1, 14]
            self.assertEqual(judge(codes("pattern a; # x") + [byte] + codes("\n")), wanted, byte)
            self.assertEqual(judge(codes("pattern a; # x") + [byte]), wanted, byte)
            self.assertEqual(judge(codes("# x") + [byte] + codes("\npattern a;")),
                             [0] if wanted == [0] else [-1, 3], byte)

    def test_first_byte_of_a_comment(self):
        self.fault(1, "#@\x7f")
        self.fault(1, "#@\t\npattern a;")

    def test_met_where_the_grammar_comes_to_it(self):
        self.fault(3, "pattern @; A")
        self.fault(3, "pattern @; # \x00")
        self.fault(1, "pattern # @\x00\n;")
        self.fault(1, "pattern a; on @! 01;")


if __name__ == "__main__":
    unittest.main()
