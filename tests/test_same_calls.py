"""same as a call: refusals of either text, made pairs, long texts, and what is left alone."""

import itertools
import random
import unittest

from waletexts.patterns import judge, print_form, same

from tests.helper import (
    EVERYTHING, LONGEST_TEXT, SCARF, Maker, PatternCase, Untouchable, codes, pairs_of_brackets, squeezed,
)

RIGHT = ("pattern a;", SCARF, EVERYTHING, "pattern a;" + " " * (LONGEST_TEXT - 10), "pattern a;" + "off;" * 4000)

# Faulty texts, in each an @ before its fault's place.
FAULTY = (
    (1, "pattern a; on @!;"), (1, "@\x00"), (1, "pattern a; # @\xff\n"), (2, "pattern a; on @01;"),
    (2, "pattern a; off; on 1+@1048577;"), (3, "@"), (3, "@a"), (3, "pattern a@"), (3, "pattern a; off; @let n = 1;"),
    (3, "   # nothing@"), (4, "pattern a; row @w;"), (4, "pattern a; let n = 1; work @n;"),
    (5, "pattern a; sizes s, @s;"), (5, "pattern a; let n = 1; @sizes s;"), (6, "pattern a; row cl @0/1;"),
    (6, "pattern a; on ((((((((@(1)))))))));"), (7, "pattern a; let @n = 1, 2;"),
    (7, "pattern a; sizes s, m; let nn = 1; let @n = 1, 2, 3;"),
)
TOO_LONG = (" " * 16385, "x" * 20000, "\x00" * 16385, SCARF + " " * 18000, "pattern a;" + "off;" * 4500)


def refused():
    """Every faulty text with its refusal."""
    for kind, marked in FAULTY:
        before, behind = marked.split("@")
        yield codes(before + behind), [-kind, len(before)]
    for text in TOO_LONG:
        yield codes(text), [-6, 16384]


class Refusals(PatternCase):
    def test_all_kinds_are_there(self):
        self.assertEqual(sorted({kind for kind, marked in FAULTY}), [1, 2, 3, 4, 5, 6, 7])
        for text, answer in refused():
            self.assertEqual(judge(text), answer)

    def test_of_either_text_beside_a_right_one(self):
        for text, answer in refused():
            for right in RIGHT:
                self.assertEqual(same(text, codes(right)), answer)
                self.assertEqual(same(codes(right), text), answer)

    def test_of_the_first_where_both_are_faulty(self):
        for (text, answer), (other, other_answer) in itertools.product(refused(), repeat=2):
            self.assertEqual(same(text, other), answer)
            self.assertEqual(same(other, text), other_answer)

    def test_the_empty_list(self):
        self.assertEqual(same([], []), [-3, 0])
        self.assertEqual(same([], codes(SCARF)), [-3, 0])
        self.assertEqual(same(codes(SCARF), []), [-3, 0])
        self.assertEqual(same(codes("!"), []), [-1, 0])
        self.assertEqual(same([], codes("!")), [-3, 0])

    def test_the_place_is_counted_in_its_own_text(self):
        self.assertEqual(same(codes(EVERYTHING), codes("pattern a; row w;")), [-4, 15])
        self.assertEqual(same(codes("pattern a;"), codes(EVERYTHING + "!")), [-1, len(EVERYTHING)])
        self.assertEqual(same(codes(SCARF), codes("pattern a; off")), [-3, 14])

    def test_a_text_too_long(self):
        longest, too_long = SCARF.ljust(LONGEST_TEXT), SCARF.ljust(LONGEST_TEXT + 1)
        self.assertEqual(same(codes(longest), codes(longest)), [1])
        self.assertEqual(same(codes(longest), codes(SCARF)), [1])
        self.assertEqual(same(codes(SCARF), codes(longest)), [1])
        for one, other in ((longest, too_long), (too_long, longest), (too_long, too_long), (SCARF, too_long),
                           (too_long, SCARF), (too_long, ""), (too_long, "!")):
            self.assertEqual(same(codes(one), codes(other)), [-6, 16384])
        self.assertEqual(same([], codes(too_long)), [-3, 0])

    def test_texts_that_are_alike_up_to_the_fault(self):
        tokens = EVERYTHING.split(" ")
        for amount in range(0, len(tokens), 7):
            text = codes(" ".join(tokens[:amount]))
            # A part of it that is right is another tree, so same answers here as judge does.
            self.assertEqual(same(codes(EVERYTHING), text), judge(text))
            self.assertEqual(same(text, codes(EVERYTHING)), judge(text))


def changed(tokens, source):
    """The tokens with a small change: a pair of brackets more, a pair less, or another token in one's place."""
    changes = (pair_added, pair_fallen, token_set)
    return source.choice(changes)(list(tokens), source)


def pair_added(tokens, source):
    first = source.randrange(len(tokens))
    last = first + source.choice((1, 1, 3, 3, 5, 7))
    return tokens[:first] + ["("] + tokens[first:last] + [")"] + tokens[last:]


def pair_fallen(tokens, source):
    pairs = pairs_of_brackets(tokens)
    if not pairs:
        return tokens
    first, last = source.choice(pairs)
    return tokens[:first] + tokens[first + 1:last] + tokens[last + 1:]


def token_set(tokens, source):
    tokens[source.randrange(len(tokens))] = source.choice(tokens)
    return tokens


class MadePairs(PatternCase):
    def test_one_tree_just_if_one_form(self):
        source = random.Random(4)
        maker = Maker(4)
        met = {(alike, again): 0 for alike in (0, 1) for again in (0, 1)}
        for number in range(1200):
            tokens = maker.text()
            others = changed(tokens, source)
            if judge(codes(" ".join(others))) != [0]:
                continue
            one, other = codes(squeezed(tokens)), codes("\n#\n".join(others))
            alike = print_form(one) == print_form(other)
            self.assertEqual(same(one, other), [int(alike)], (tokens, others))
            self.assertEqual(same(other, one), [int(alike)], (tokens, others))
            met[int(alike), int(tokens == others)] += 1
        # Other brackets, the same tree; other tokens, another tree; the very same tokens.
        self.assertGreater(min(met[1, 0], met[0, 0], met[1, 1]), 20)
        self.assertEqual(met[0, 1], 0)

    def test_all_pairs_of_a_family(self):
        source = random.Random(40)
        tokens = "pattern a ; let n = 3 ; row ( k ( 1 + n ) - 2 , p ) ; on ( 1 - 2 ) - ( n * 3 ) ;".split(" ")
        family = {}
        while len(family) < 60:
            others = changed(tokens, source)
            for number in range(source.randrange(3)):
                others = changed(others, source)
            if judge(codes(" ".join(others))) == [0]:
                family[" ".join(others)] = print_form(codes(" ".join(others)))
        met = {}
        for one, other in itertools.product(family, repeat=2):
            answer = same(codes(one), codes(other))
            self.assertEqual(answer, [int(family[one] == family[other])], (one, other))
            met[answer[0], one == other] = True
        self.assertEqual(sorted(met), [(0, False), (1, False), (1, True)])


class LongTexts(PatternCase):
    def differs_at_the_end(self, before, piece, last, behind):
        """As many of the piece as there is room for: alike, and with another last one or one less."""
        amount = (LONGEST_TEXT - len(before) - len(last) - len(behind)) // len(piece)
        self.assertGreater(amount, 1000)
        text = before + piece * amount + behind
        self.assertEqual(same(codes(text), codes(text)), [1])
        for other in (before + piece * (amount - 1) + last + behind, before + piece * (amount - 1) + behind):
            self.assertEqual(same(codes(text), codes(other)), [0], last)
            self.assertEqual(same(codes(other), codes(text)), [0], last)

    def test_row_items(self):
        for piece, last in ((",k", ",p"), (",k", ",(k)"), (",k", ",k 2"), (",(k)", ",(p)"),
                            (",k to end", ",k to last 1"), (",mark m", ",mark l"), (",cl 1/2", ",cl 1/3")):
            self.differs_at_the_end("pattern a;row k", piece, last, ";")
            self.differs_at_the_end("pattern a;word w=k", piece, last, ";")
            self.differs_at_the_end("pattern a;row((((((((k)))))))),(((((((k", piece, last, ")))))));")

    def test_stats(self):
        for piece, last in (("off;", "on1;"), ("off;", "row k;"), ("on 1;", "on 2;"), ("on 1;", "on 1 round;"),
                            ("row k;", "row p;"), ("row k;", "row rs k;"), ("repeat 1{}", "repeat 1{off;}"),
                            ("repeat 1{}", "until 1{}")):
            self.differs_at_the_end("pattern a;", piece, last, "")
            self.differs_at_the_end("pattern a;block b{", piece, last, "}")
            self.differs_at_the_end("pattern a;" + "repeat 1{" * 7, piece, last, "}" * 7)

    def test_signs_in_a_sum(self):
        for sign, other in ("+-", "-+", "*/", "/*"):
            for last in (sign + "2", other + "1", sign + "(1" + other + "1)"):
                self.differs_at_the_end("pattern a;on 1", sign + "1", last, ";")
                self.differs_at_the_end("pattern a;row k to last 2*(1", sign + "1", last, ")-1;")
                self.differs_at_the_end("pattern a;on 1-(((((((1", sign + "1", last, ")))))));")
        self.differs_at_the_end("pattern a;on 1", "-(2-3)*4", "-(2-3)*5", ";")

    def test_brackets_of_a_long_sum(self):
        for sign in "+-*/":
            numbers = "1" + (sign + "1") * 7000
            self.one_tree("pattern a;on(" + numbers + ");", "pattern a;on " + numbers + ";")
            self.one_tree("pattern a;on(" + numbers + ")" + sign + "1;", "pattern a;on " + numbers + sign + "1;")
            self.two_trees("pattern a;on 1" + sign + "(" + numbers + ");", "pattern a;on 1" + sign + numbers + ";")

    def test_names_and_blanks(self):
        self.one_tree("pattern " + "a" * 16000 + ";", "# \n pattern " + "a" * 16000 + " ;")
        self.two_trees("pattern " + "a" * 16000 + ";", "pattern " + "a" * 15999 + "b;")
        self.two_trees("pattern " + "a" * 16000 + ";", "pattern " + "a" * 15999 + ";")
        self.one_tree("pattern a;" + "#\n" * 8000 + "off;", "pattern a;" + " " * 16000 + "off;")
        self.two_trees("pattern a;" + "#\n" * 8000 + "off;", "pattern a;" + " " * 16000 + "on 1;")

    def test_forms_longer_than_a_text_may_be(self):
        opened, closed = "pattern a;" + "repeat1{" * 8, "}" * 8
        text, other = opened + "on1;" * 4000 + closed, opened + "on1;" * 3999 + "on2;" + closed
        self.assertGreater(print_form(codes(text))[0], LONGEST_TEXT)
        self.one_tree(text, text)
        self.two_trees(text, other)

    def test_braces_and_brackets_eight_deep(self):
        for opening, closing in (("repeat 1{off;", "off;}"), ("until 2{", "}"), ("repeat 1{", "}off;")):
            self.one_tree("pattern a;" + opening * 8 + closing * 8, "pattern a; " + opening * 8 + "\n" + closing * 8)
            self.two_trees("pattern a;" + opening * 8 + closing * 8, "pattern a;" + opening * 8 + "on 1;" + closing * 8)
            self.two_trees("pattern a;" + opening * 8 + closing * 8, "pattern a;" + opening * 7 + closing * 7)
        row = "pattern a;row " + "(k," * 8 + "p" + ")2" * 8
        self.one_tree(row + ";", row + " ;")
        self.two_trees(row + ";", row.replace("p)", "k)") + ";")
        self.two_trees(row + ";", row + ",p;")
        self.two_trees(row + ";", row[:-1] + "3;")


class LeftAlone(PatternCase):
    TEXTS = (SCARF, EVERYTHING, "pattern a;", "", "pattern a; on !;", "pattern a; let n = 1, 2;", "x" * 17000)

    def test_what_is_handed_in_is_not_changed(self):
        for text, other in itertools.product(self.TEXTS, repeat=2):
            one, two = codes(text), codes(other)
            answer = same(one, two)
            self.assertEqual((one, two), (codes(text), codes(other)))
            self.assertEqual(same(Untouchable(one), Untouchable(two)), answer)

    def test_one_and_the_same_list(self):
        for text in self.TEXTS:
            handed = codes(text)
            answer = same(handed, handed)
            self.assertEqual(handed, codes(text))
            self.assertEqual(answer, [1] if judge(handed) == [0] else judge(handed))
            untouchable = Untouchable(handed)
            self.assertEqual(same(untouchable, untouchable), answer)

    def test_kinds_of_what_is_given_back(self):
        for text, other in itertools.product(self.TEXTS, repeat=2):
            answer = same(codes(text), codes(other))
            self.assertIs(type(answer), list)
            self.assertEqual([type(number) for number in answer], [int] * (2 if answer[0] < 0 else 1))

    def test_the_same_call_twice(self):
        for text, other in itertools.product(self.TEXTS, repeat=2):
            one, two = codes(text), codes(other)
            answer = same(one, two)
            same(one, two).append(7)
            self.assertEqual(same(one, two), answer)

    def test_the_three_calls_in_any_order(self):
        pairs = list(itertools.product(self.TEXTS, repeat=2))
        asked = [(judge, (text,)) for text in self.TEXTS] + [(print_form, (text,)) for text in self.TEXTS]
        asked += [(same, pair) for pair in pairs]
        first = [call(*map(codes, texts)) for call, texts in asked]
        source = random.Random(8)
        for number in source.choices(range(len(asked)), k=600):
            call, texts = asked[number]
            self.assertEqual(call(*map(codes, texts)), first[number], texts)
        handed = [codes(text) for text in self.TEXTS]
        for calls in itertools.permutations((judge, print_form, same)):
            for one, two in itertools.product(range(len(handed)), repeat=2):
                for call in calls:
                    texts = (self.TEXTS[one], self.TEXTS[two]) if call is same else (self.TEXTS[one],)
                    given = (handed[one], handed[two]) if call is same else (handed[one],)
                    self.assertEqual(call(*given), first[asked.index((call, texts))])


if __name__ == "__main__":
    unittest.main()
