"""The grammar's rules for sums, products and factors; what is read is a number's or name's text, or a Chain."""

from waletexts.names import NUMBERS
from waletexts.tokens import NAME, NUMBER
from waletexts.tree import PRODUCT_LEVEL, SUM_LEVEL, chained


def begins_sum(token):
    return token.kind == NUMBER or token.kind == NAME or token.text == "("


def read_sum(reader):
    node = read_product(reader)
    while reader.peek().text in ("+", "-"):
        sign = reader.step().text
        node = chained(SUM_LEVEL, node, sign, read_product(reader))
    return node


def read_product(reader):
    node = read_factor(reader)
    while reader.peek().text in ("*", "/"):
        sign = reader.step().text
        node = chained(PRODUCT_LEVEL, node, sign, read_factor(reader))
    return node


def read_factor(reader):
    token = reader.peek()
    if token.kind == NUMBER:
        return str(reader.step().number)
    if token.kind == NAME:
        return reader.want_told_name(NUMBERS)
    reader.enter("(")
    node = read_sum(reader)
    reader.leave(")")
    return node
