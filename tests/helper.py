"""What the tests share: texts as lists of bytes, and a case that judges, prints and compares them."""

import ast
import itertools
import random
import re
import unittest

from waletexts.patterns import judge, print_form, same

LONGEST_TEXT = 16384
SIGNS = "+-*/"

SCARF = """pattern scarf;
sizes s, m;
let n = 20, 24;
word rib = k, p;
block edge {
  row rs (k, p) to end;
}
on n*2+2;
work edge 2;
row ws sl, rib 3, (yo, ssk) to last 2, k 2;
"""

# One text with every head, stat, item, unit, lone and goal, cut into its tokens by single blanks.
EVERYTHING = (
    "pattern all ; sizes s , m ; yarns red , blue ; let n = 20 , 24 ; let o = ( n + 2 ) * 3 / 4 - n ; "
    "word rib = k , p 2 ; word both = rib n , ( rib , k2tog ) to end ; block none { } "
    "block edge { on 3 ; row rs ( k , p ) to end ; repeat 2 { off ; } work none ; } "
    "on n * 2 + 2 ; on 7 round ; row k ; row rs cl 1 / 16 , cr 2 / 2 3 , hold h , hold h 2 , hold h to end ; "
    "row ws k to last 2 * n , p to mark a , both ( 1 + 1 ) , take h , yarn red , mark a , pass a , clear a , "
    "turn , fasten ; until n { work edge 2 ; work edge n ; work edge ( 3 ) ; } repeat 0 { } off ;"
)

PLAIN = (
    "k p ktbl ptbl yo k2tog k3tog ssk sssk p2tog ssp cdd kfb pfb kp m1l m1r sl slf pso even co bo"
).split()
RESERVED = (
    "pattern sizes yarns let word block on round row rs ws repeat until work off to end last mark cl cr "
    "hold take yarn pass clear turn fasten"
).split()


def codes(text):
    return list(text.encode("latin-1"))


def same_as_itself(t):
    return same(t, t)


def same_first(t):
    return same(t, codes(SCARF))


def same_second(t):
    return same(codes(SCARF), t)


# Every call, asked of one text; what has a fault is refused alike by all of them.
CALLS = (judge, print_form, same_as_itself, same_first, same_second)


def name(number):
    """A name of three letters, another one for each number below 17,576; none is a word of the language."""
    return "x" + "".join(chr(97 + number // step % 26) for step in (676, 26, 1))


def names(amount):
    return [name(number) for number in range(amount)]


def cut(text):
    """The tokens of a right text without comments."""
    return re.findall(r"(?:k2tog|k3tog|p2tog|m1l|m1r)(?![a-z0-9_])|[a-z][a-z_]*|[0-9]+|[^ \n]", text)


def squeezed(tokens):
    """A text of these tokens with no blank that may be left out."""
    text = ""
    for before, token in zip([""] + tokens, tokens):
        word_behind_word = before[:1].isalpha() and token[0].isalpha()
        number_behind = token[0].isdigit() and (before.isdigit() or before[:1].isalpha() and not before.isalpha())
        text += (" " if word_behind_word or number_behind else "") + token
    return text


def tree(text):
    """Python's own tree of the same sum: its signs bind as they do here, from the left, and brackets leave no trace."""
    return ast.dump(ast.parse(text, mode="eval"))


def pairs_of_brackets(signs):
    """The places of each bracket that is opened and closed again in a text or a list of tokens."""
    opened, pairs = [], []
    for place, sign in enumerate(signs):
        if sign == "(":
            opened.append(place)
        elif sign == ")" and opened:
            pairs.append((opened.pop(), place))
    return pairs


def all_sums(numbers):
    """Each way to set brackets and signs between these numbers, with brackets about everything but single numbers."""
    if len(numbers) == 1:
        yield numbers[0]
        return
    for place in range(1, len(numbers)):
        for left, sign, right in itertools.product(all_sums(numbers[:place]), SIGNS, all_sums(numbers[place:])):
            yield "(" + left + sign + right + ")"


def made_sum(source, deep):
    text = made_factor(source, deep)
    for number in range(source.randrange(4)):
        text += source.choice(SIGNS) + made_factor(source, deep)
    return text


def made_factor(source, deep):
    if deep > 0 and source.randrange(5) < 2:
        return "(" + made_sum(source, deep - 1) + ")"
    return source.choice(("0", "1", "20", "n", "o"))


class Maker:
    """Makes right texts by chance, always the same ones for the same seed, as lists of tokens."""

    HEADS = "sizes s , m ; yarns red , blue_ ; let n = 3 ; let o = 1 , n ; word w = k ; block b { }".split(" ")

    def __init__(self, seed):
        self.source = random.Random(seed)

    def text(self):
        return ["pattern", "a", ";"] + self.HEADS + self.heads() + self.stats(8, self.source.randrange(6))

    def some(self, *choices):
        return self.source.choice(choices)

    def heads(self):
        heads = ["let", "p_q", "="] + self.sum(8) + self.some([], [","] + self.sum(8)) + [";"]
        heads += ["word", "u", "="] + self.items(8) + [";"]
        return heads + ["block", "c", "{"] + self.stats(7, self.source.randrange(4)) + ["}"]

    def stats(self, depth, amount):
        return [token for number in range(amount) for token in self.stat(depth)]

    def stat(self, depth):
        kinds = ["on", "row", "row", "row", "work", "off"] + ["repeat", "until"] * 2 * (depth > 0)
        word = self.some(*kinds)
        if word in ("repeat", "until"):
            return [word] + self.sum(depth) + ["{"] + self.stats(depth - 1, self.source.randrange(3)) + ["}"]
        behind = {
            "on": lambda: self.sum(depth) + self.some([], ["round"]),
            "row": lambda: self.some([], ["rs"], ["ws"]) + self.items(depth),
            "work": lambda: ["b"] + self.some([], self.sum(depth)),
            "off": lambda: [],
        }
        return [word] + behind[word]() + [";"]

    def items(self, depth):
        items = self.item(depth)
        for number in range(self.source.randrange(4)):
            items += [","] + self.item(depth)
        return items

    def item(self, depth):
        if self.source.randrange(4) == 0:
            return self.some("take h", "yarn red", "mark a", "pass a", "clear c", "turn", "fasten").split(" ")
        unit = self.some("k", "p2tog", "m1r", "cl 1 / 16", "cr 2 / 3", "hold h", "w", "(").split(" ")
        if unit == ["("]:
            unit = ["("] + self.items(depth - 1) + [")"] if depth > 0 else ["yo"]
        goal = self.some(["end"], ["mark", "k_m"], ["last"] + self.sum(depth))
        return unit + self.some([], self.sum(depth), ["to"] + goal)

    def sum(self, depth):
        tokens = self.factor(depth)
        for number in range(self.source.randrange(4)):
            tokens += [self.some("+", "-", "*", "/")] + self.factor(depth)
        return tokens

    def factor(self, depth):
        if depth > 0 and self.source.randrange(3) == 0:
            return ["("] + self.sum(depth - 1) + [")"]
        return [self.some("0", "7", "12", "1048576", "n", "o")]


class Untouchable(list):
    """A list that can be read alone."""

    def refuse(self, *arguments, **named):
        raise AssertionError("what was handed in is changed")

    append = clear = extend = insert = pop = remove = reverse = sort = refuse
    __setitem__ = __delitem__ = __iadd__ = __imul__ = refuse


class PatternCase(unittest.TestCase):
    def right(self, text):
        self.assertEqual(judge(codes(text)), [0], text)
        self.form(text)

    def fault(self, kind, marked):
        """The text, in which an @ stands before the fault's place, is refused with that kind, whichever call asks."""
        before, behind = marked.split("@")
        for call in CALLS:
            self.assertEqual(call(codes(before + behind)), [-kind, len(before)], marked)

    def form(self, text):
        """The form of a right text; what is true of every form is asked here too."""
        answer = print_form(codes(text))
        self.assertEqual(answer[0], len(answer) - 1, text)
        self.assertLessEqual(answer[0], 16 * len(text) + 64, text)
        form = answer[1:]
        if len(form) <= LONGEST_TEXT:
            self.assertEqual(judge(form), [0], text)
            self.assertEqual(print_form(form), answer, text)
            self.assertEqual(same(codes(text), form), [1], text)
        return "".join(map(chr, form))

    def prints(self, text, form):
        self.assertEqual(self.form(text), form, text)

    def one_tree(self, text, other):
        self.compares(text, other, True)

    def two_trees(self, text, other):
        self.compares(text, other, False)

    def compares(self, text, other, alike):
        """Both texts are right; they are one tree, and have one form, or not, whichever stands first."""
        texts = (text[-200:], other[-200:])
        self.assertEqual(same(codes(text), codes(other)), [int(alike)], texts)
        self.assertEqual(same(codes(other), codes(text)), [int(alike)], texts)
        self.assertEqual(print_form(codes(text)) == print_form(codes(other)), alike, texts)
