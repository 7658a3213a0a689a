"""The tree that a text is read as: a list of Stats, in which blanks, comments and a sum's own brackets leave no trace.

A phrase is a list of parts, and a part is a text (a word, a name, a number), a Chain, a Listed or a Bracketed.
"""

SUM_LEVEL = 1
PRODUCT_LEVEL = 2


# A head or a statement: the phrase before its braces or its semicolon, and the braces' statements, if it has braces.
class Stat:
    def __init__(self, phrase, body):
        self.phrase = phrase
        self.body = body


# Phrases with commas between them.
class Listed:
    def __init__(self, phrases):
        self.phrases = phrases


# A row's or a word's items in brackets of their own.
class Bracketed:
    def __init__(self, listed):
        self.listed = listed


# A sum or a product: its first operand, then pairs of a sign and an operand, each taken to all that stands before it.
# Kept flat, for it may be thousands long. An operand is a text (a number or a name) or a Chain.
class Chain:
    def __init__(self, level, first):
        self.level = level
        self.first = first
        self.pairs = []


# Sums and products go from the left, so a left of the same level goes on: whether it stood in brackets is all one.
def chained(level, left, sign, right):
    chain = left if has_level(left, level) else Chain(level, left)
    chain.pairs.append((sign, right))
    return chain


def has_level(node, level):
    return isinstance(node, Chain) and node.level == level
