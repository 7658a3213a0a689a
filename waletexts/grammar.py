"""The grammar: one function for each of its rules, and whatever there is a choice, the next token decides.

The functions call one another only as deep as braces and brackets may stand in one another.
"""

from waletexts.faults import AgainFault, BoundFault, SumsFault
from waletexts.names import BLOCKS, HOLDERS, MARKERS, NUMBERS, SIZES, WORDS, YARNS
from waletexts.tokens import END, NAME, NUMBER, PLAIN

HEADS = ("sizes", "yarns", "let", "word", "block")
STATS = ("on", "row", "repeat", "until", "work", "off")
LONES = ("take", "yarn", "mark", "pass", "clear", "turn", "fasten")
LARGEST_CROSSING = 16


def read_pattern(reader):
    reader.want("pattern")
    reader.want_kind(NAME)
    reader.want(";")
    while reader.peek().text in HEADS:
        read_head(reader)
    read_stats(reader)
    reader.want_kind(END)


def read_head(reader):
    token = reader.step()
    if token.text == "sizes":
        read_sizes(reader, token)
    elif token.text == "yarns":
        read_yarns(reader, token)
    elif token.text == "let":
        read_let(reader)
    elif token.text == "word":
        read_word(reader)
    else:
        read_block(reader)


def read_sizes(reader, token):
    if reader.names.amount(SIZES) > 0 or reader.names.amount(NUMBERS) > 0:
        raise AgainFault(token.place)
    read_new_names(reader, SIZES)


def read_yarns(reader, token):
    if reader.names.amount(YARNS) > 0:
        raise AgainFault(token.place)
    read_new_names(reader, YARNS)


def read_new_names(reader, kind):
    # Told at once, so that each is compared with those before it; nothing is used before the ';'.
    reader.names.tell(reader.want_new_name(kind), kind)
    while reader.skip(","):
        reader.names.tell(reader.want_new_name(kind), kind)
    reader.want(";")


def read_let(reader):
    name = reader.want_new_name(NUMBERS)
    reader.want("=")
    read_sum(reader)
    sums = 1
    while reader.skip(","):
        read_sum(reader)
        sums += 1
    reader.want(";")
    if sums != 1 and sums != reader.names.amount(SIZES):
        raise SumsFault(name.place)
    reader.names.tell(name, NUMBERS)


def read_word(reader):
    name = reader.want_new_name(WORDS)
    reader.want("=")
    read_row_items(reader)
    reader.want(";")
    reader.names.tell(name, WORDS)


def read_block(reader):
    name = reader.want_new_name(BLOCKS)
    read_braces(reader)
    reader.names.tell(name, BLOCKS)


def read_braces(reader):
    reader.enter("{")
    read_stats(reader)
    reader.leave("}")


def read_stats(reader):
    while reader.peek().text in STATS:
        read_stat(reader)


def read_stat(reader):
    word = reader.step().text
    if word == "repeat" or word == "until":
        read_sum(reader)
        read_braces(reader)
        return
    if word == "on":
        read_sum(reader)
        reader.skip("round")
    elif word == "row":
        read_row(reader)
    elif word == "work":
        read_work(reader)
    reader.want(";")


def read_row(reader):
    if reader.peek().text in ("rs", "ws"):
        reader.step()
    read_row_items(reader)


def read_work(reader):
    reader.want_told_name(BLOCKS)
    if begins_sum(reader.peek()):
        read_sum(reader)


def read_row_items(reader):
    read_row_item(reader)
    while reader.skip(","):
        read_row_item(reader)


def read_row_item(reader):
    if reader.peek().text in LONES:
        read_lone(reader)
        return
    read_unit(reader)
    if begins_sum(reader.peek()):
        read_sum(reader)
    elif reader.skip("to"):
        read_goal(reader)


def read_goal(reader):
    if reader.skip("last"):
        read_sum(reader)
    elif reader.skip("mark"):
        reader.want_standing_name(MARKERS)
    else:
        reader.want("end")


def read_unit(reader):
    token = reader.peek()
    if token.text in PLAIN:
        reader.step()
    elif token.text == "cl" or token.text == "cr":
        read_crossing(reader)
    elif reader.skip("hold"):
        reader.want_standing_name(HOLDERS)
    elif token.kind == NAME:
        reader.want_told_name(WORDS)
    else:
        reader.enter("(")
        read_row_items(reader)
        reader.leave(")")


def read_crossing(reader):
    reader.step()
    read_crossing_number(reader)
    reader.want("/")
    read_crossing_number(reader)


def read_crossing_number(reader):
    token = reader.want_kind(NUMBER)
    if token.number < 1 or token.number > LARGEST_CROSSING:
        raise BoundFault(token.place)


def read_lone(reader):
    word = reader.step().text
    if word == "take":
        reader.want_standing_name(HOLDERS)
    elif word == "yarn":
        reader.want_told_name(YARNS)
    elif word in ("mark", "pass", "clear"):
        reader.want_standing_name(MARKERS)


def begins_sum(token):
    return token.kind == NUMBER or token.kind == NAME or token.text == "("


def read_sum(reader):
    read_product(reader)
    while reader.peek().text in ("+", "-"):
        reader.step()
        read_product(reader)


def read_product(reader):
    read_factor(reader)
    while reader.peek().text in ("*", "/"):
        reader.step()
        read_factor(reader)


def read_factor(reader):
    token = reader.peek()
    if token.kind == NUMBER:
        reader.step()
    elif token.kind == NAME:
        reader.want_told_name(NUMBERS)
    else:
        reader.enter("(")
        read_sum(reader)
        reader.leave(")")
