"""The call itself, and the promises: what is answered, whatever is handed in, and what is left alone."""

import itertools
import random
import unittest

from waletexts.patterns import judge

from tests.helper import EVERYTHING, SCARF, JudgeCase, codes

FAULTY = (
    "", "a", "pattern", "pattern a; on 01; off;", "pattern a; on !;", "pattern a; row w;", "pattern a; sizes s, s;",
    "pattern a; row cl 0/1;", "pattern a; let n = 1, 2;", "pattern a; let n = 1, 2", "pattern a; row k2togx;",
    "pattern a; # \x01\noff;", "pattern a; repeat 1 { row (k; }", "pattern a; off; let n = 1;",
    "pattern a; on ((((((((((1))))))))));", "pattern a; on 1048577;",
)


def changed_texts(amount):
    """Texts made of the right ones by a few changes, always the same."""
    source = random.Random(20261116)
    tokens = sorted(set(EVERYTHING.split(" "))) + ["!", "01", "x", "# c\n", "\n", "", "1048577", "[", "\x80"]
    for number in range(amount):
        parts = EVERYTHING.split(" ")
        for change in range(source.randrange(1, 4)):
            place = source.randrange(len(parts))
            parts[place:place + source.randrange(3)] = source.choices(tokens, k=source.randrange(3))
        yield (" " if number % 3 else "").join(parts)


class Untouchable(list):
    """A list that can be read alone."""

    def refuse(self, *arguments, **named):
        raise AssertionError("what was handed in is changed")

    append = clear = extend = insert = pop = remove = reverse = sort = refuse
    __setitem__ = __delitem__ = __iadd__ = __imul__ = refuse


class Answers(JudgeCase):
    def test_the_empty_list(self):
        self.assertEqual(judge([]), [-3, 0])

    def test_kinds_of_what_is_given_back(self):
        for text in (SCARF, *FAULTY):
            answer = judge(codes(text))
            self.assertIs(type(answer), list)
            for number in answer:
                self.assertIs(type(number), int)

    def test_what_is_handed_in_is_not_changed(self):
        for text in (SCARF, EVERYTHING, *FAULTY, "x" * 17000):
            handed = codes(text)
            judge(handed)
            self.assertEqual(handed, codes(text))
            self.assertEqual(judge(Untouchable(handed)), judge(handed))

    def test_the_same_call_twice(self):
        for text in (SCARF, EVERYTHING, *FAULTY):
            self.assertEqual(judge(codes(text)), judge(codes(text)))

    def test_nothing_is_kept_between_calls(self):
        first = [judge(codes(text)) for text in (SCARF, *FAULTY)]
        for number, text in itertools.chain(*itertools.repeat(list(enumerate((SCARF, *FAULTY))), 5)):
            self.assertEqual(judge(codes(text)), first[number])
        for number in range(30):
            self.right("pattern a; sizes s; yarns y; let n = 1; row take h" + "x" * number + ";")
        self.fault(4, "pattern a; on @n;")

    def test_an_answer_is_the_callers_own(self):
        judge(codes(SCARF)).append(7)
        judge([]).append(7)
        self.assertEqual(judge(codes(SCARF)), [0])
        self.assertEqual(judge([]), [-3, 0])


class Promises(JudgeCase):
    def test_1_one_right_text_or_one_first_fault(self):
        source = random.Random(7)
        texts = [codes(text) for text in itertools.chain(FAULTY, changed_texts(2000))]
        texts += [[source.randrange(256) for place in range(source.randrange(60))] for number in range(300)]
        texts += [codes(SCARF)[:place] + [source.randrange(256)] + codes(SCARF)[place + 1:] for place in range(len(SCARF))]
        kinds = {}
        for text in texts:
            answer = judge(text)
            kinds[answer[0]] = True
            if answer != [0]:
                self.assertEqual(len(answer), 2)
                self.assertIn(-answer[0], range(1, 8))
                self.assertIn(answer[1], range(len(text) + 1))
        self.assertEqual(sorted(kinds), [-7, -6, -5, -4, -3, -2, -1, 0])

    def test_3_blanks_and_comments_alone(self):
        source = random.Random(3)
        blanks = (" ", "\n", "   ", "# a comment\n", "\n\n  # let n = 01; !\n")
        for number in range(500):
            tokens = EVERYTHING.split(" ")
            for change in range(source.randrange(3)):
                tokens[source.randrange(len(tokens))] = source.choice(tokens + ["!", "01", "zz"])
            outcomes = []
            for how in range(3):
                text, begins = "", {}
                for index, token in enumerate(tokens):
                    text += source.choice(blanks)
                    begins[len(text)] = index
                    text += token
                begins[len(text)] = "the end"
                answer = judge(codes(text))
                outcomes.append([answer[0]] + [begins[place] for place in answer[1:]])
            self.assertEqual(outcomes[0], outcomes[1])
            self.assertEqual(outcomes[0], outcomes[2])

    def test_5_what_follows_a_fault_changes_nothing(self):
        behind = ("", "off;", "!", "01", "x", "pattern a;", "}", ")", "\x00\xff", "#", "# \x01", ";", "let n = 1, 2;")
        met = {}
        for text in itertools.chain(FAULTY, changed_texts(1000)):
            answer = judge(codes(text))
            if answer == [0] or answer[1] == len(text):
                continue
            met[answer[0]] = True
            for more in behind:
                self.assertEqual(judge(codes(text + "\n" + more)), answer, text)
        self.assertEqual(sorted(met), [-7, -6, -5, -4, -3, -2, -1])


if __name__ == "__main__":
    unittest.main()
