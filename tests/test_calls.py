"""The calls themselves, and the promises: what is answered, whatever is handed in, and what is left alone."""

import itertools
import random
import unittest

from waletexts.patterns import judge, print_form, same

from tests.helper import CALLS, EVERYTHING, SCARF, Maker, PatternCase, Untouchable, codes, squeezed

FAULTY = (
    "", "a", "pattern", "pattern a; on 01; off;", "pattern a; on !;", "pattern a; row w;", "pattern a; sizes s, s;",
    "pattern a; row cl 0/1;", "pattern a; let n = 1, 2;", "pattern a; let n = 1, 2", "pattern a; row k2togx;",
    "pattern a; # \x01\noff;", "pattern a; repeat 1 { row (k; }", "pattern a; off; let n = 1;",
    "pattern a; on ((((((((((1))))))))));", "pattern a; on 1048577;",
)


def changed_texts(amount):
    """Texts made of the right ones by a few changes, always the same."""
    source = random.Random(20261116)
    tokens = sorted(set(EVERYTHING.split(" "))) + ["!", "01", "x", "# c\n", "\n", "", "1048577", "[", "\x80"]
    for number in range(amount):
        parts = EVERYTHING.split(" ")
        for change in range(source.randrange(1, 4)):
            place = source.randrange(len(parts))
            parts[place:place + source.randrange(3)] = source.choices(tokens, k=source.randrange(3))
        yield (" " if number % 3 else "").join(parts)


class Answers(PatternCase):
    def test_the_empty_list(self):
        for call in CALLS:
            self.assertEqual(call([]), [-3, 0])

    def test_right_texts(self):
        self.assertEqual(judge(codes(SCARF)), [0])
        self.assertEqual(print_form(codes(SCARF)), [len(SCARF)] + codes(SCARF))
        self.assertEqual(print_form(codes("pattern a;")), [11, 112, 97, 116, 116, 101, 114, 110, 32, 97, 59, 10])
        self.assertEqual(same(codes(SCARF), codes(SCARF)), [1])
        self.assertEqual(same(codes(SCARF), codes(EVERYTHING)), [0])

    def test_refusals(self):
        met = {}
        for text in (*FAULTY, "x" * 16385, "\x00" * 20000, " " * 20000):
            answer = judge(codes(text))
            met[answer[0]] = True
            for call in CALLS:
                self.assertEqual(call(codes(text)), answer)
            self.assertEqual(len(answer), 2)
        self.assertEqual(sorted(met), [-7, -6, -5, -4, -3, -2, -1])

    def test_a_text_too_long(self):
        too_long = codes(SCARF) + [32] * (16385 - len(SCARF))
        for call in CALLS:
            self.assertEqual(call(too_long), [-6, 16384])
        self.assertEqual(print_form(too_long[:-1]), [len(SCARF)] + codes(SCARF))

    def test_kinds_of_what_is_given_back(self):
        for call, text in itertools.product(CALLS, (SCARF, EVERYTHING, *FAULTY)):
            answer = call(codes(text))
            self.assertIs(type(answer), list)
            for number in answer:
                self.assertIs(type(number), int)

    def test_what_is_handed_in_is_not_changed(self):
        for call, text in itertools.product(CALLS, (SCARF, EVERYTHING, *FAULTY, "x" * 17000)):
            handed = codes(text)
            answer = call(handed)
            self.assertEqual(handed, codes(text))
            self.assertEqual(call(Untouchable(handed)), answer)

    def test_what_is_given_back_is_not_what_is_handed_in(self):
        handed = codes(SCARF)
        print_form(handed).clear()
        self.assertEqual(handed, codes(SCARF))

    def test_the_same_call_twice(self):
        for call, text in itertools.product(CALLS, (SCARF, EVERYTHING, *FAULTY)):
            handed = codes(text)
            answer = call(handed)
            self.assertEqual(call(handed), answer)
            self.assertEqual(call(codes(text)), answer)

    def test_nothing_is_kept_between_calls(self):
        calls = list(itertools.product(CALLS, (SCARF, EVERYTHING, *FAULTY)))
        first = [call(codes(text)) for call, text in calls]
        source = random.Random(1)
        for number in source.choices(range(len(calls)), k=500):
            call, text = calls[number]
            self.assertEqual(call(codes(text)), first[number])
        for number in range(30):
            self.right("pattern a; sizes s; yarns y; let n = 1; row take h" + "x" * number + ";")
        self.fault(4, "pattern a; on @n;")

    def test_an_answer_is_the_callers_own(self):
        for call, text in itertools.product(CALLS, (SCARF, "")):
            answer = call(codes(text))
            call(codes(text)).append(7)
            self.assertEqual(call(codes(text)), answer)


class Promises(PatternCase):
    def test_1_one_right_text_or_one_first_fault(self):
        source = random.Random(7)
        texts = [codes(text) for text in itertools.chain(FAULTY, changed_texts(2000))]
        texts += [[source.randrange(256) for place in range(source.randrange(60))] for number in range(300)]
        for place in range(len(SCARF)):
            texts.append(codes(SCARF))
            texts[-1][place] = source.randrange(256)
        kinds = {}
        for text in texts:
            answer = judge(text)
            kinds[answer[0]] = True
            if answer == [0]:
                self.assertGreater(print_form(text)[0], 0)
                self.assertEqual(same(text, text), [1])
            else:
                self.assertEqual(len(answer), 2)
                self.assertIn(-answer[0], range(1, 8))
                self.assertIn(answer[1], range(len(text) + 1))
                for call in CALLS:
                    self.assertEqual(call(text), answer)
        self.assertEqual(sorted(kinds), [-7, -6, -5, -4, -3, -2, -1, 0])

    def test_2_the_form_is_right_its_own_form_and_the_same_tree(self):
        maker = Maker(2)
        for text in [SCARF, EVERYTHING] + [squeezed(maker.text()) for number in range(300)]:
            answer = print_form(codes(text))
            self.assertEqual(answer[0], len(answer[1:]))
            self.assertEqual(judge(answer[1:]), [0])
            self.assertEqual(print_form(answer[1:]), answer)
            self.assertEqual(same(answer[1:], codes(text)), [1])
            self.assertEqual(same(codes(text), answer[1:]), [1])

    def test_3_blanks_and_comments_alone(self):
        source = random.Random(3)
        maker = Maker(3)
        blanks = (" ", "\n", "   ", "# a comment\n", "\n\n  # let n = 01; !\n")
        met = {}
        for number in range(500):
            tokens = EVERYTHING.split(" ") if number % 2 else maker.text()
            for change in range(source.randrange(3)):
                tokens[source.randrange(len(tokens))] = source.choice(tokens + ["!", "01", "zz"])
            ways = [self.spread(tokens, source, blanks) for how in range(3)]
            outcomes = [self.outcome(*way) for way in ways]
            met[outcomes[0][0] > 0] = True
            self.assertEqual(outcomes[0], outcomes[1])
            self.assertEqual(outcomes[0], outcomes[2])
            if outcomes[0][0] > 0:
                self.one_tree(ways[0][0], ways[1][0])
                self.one_tree(ways[1][0], ways[2][0])
        self.assertEqual(sorted(met), [False, True])

    def spread(self, tokens, source, blanks):
        """A text of these tokens with blanks between them, and which of them begins at which place."""
        text, begins = "", {}
        for index, token in enumerate(tokens):
            text += source.choice(blanks)
            begins[len(text)] = index
            text += token
        begins[len(text)] = "the end"
        return text, begins

    def outcome(self, text, begins):
        """What print_form answers; of a fault, which token it is at."""
        answer = print_form(codes(text))
        if answer[0] > 0:
            return answer
        for call in CALLS:
            self.assertEqual(call(codes(text)), answer)
        return [answer[0], begins[answer[1]]]

    def test_5_what_follows_a_fault_changes_nothing(self):
        behind = ("", "off;", "!", "01", "x", "pattern a;", "}", ")", "\x00\xff", "#", "# \x01", ";", "let n = 1, 2;")
        met = {}
        for text in itertools.chain(FAULTY, changed_texts(1000)):
            answer = judge(codes(text))
            if answer == [0] or answer[1] == len(text):
                continue
            met[answer[0]] = True
            for more in behind:
                for call in CALLS:
                    self.assertEqual(call(codes(text + "\n" + more)), answer, text)
        self.assertEqual(sorted(met), [-7, -6, -5, -4, -3, -2, -1])


if __name__ == "__main__":
    unittest.main()
