"""The grammar: one function for each of its rules, and whatever there is a choice, the next token decides.

The functions call one another only as deep as braces and brackets may stand in one another. Each gives back what it
has read, as a piece of the tree.
"""

from waletexts.faults import AgainFault, BoundFault, SumsFault
from waletexts.names import BLOCKS, HOLDERS, MARKERS, NUMBERS, SIZES, WORDS, YARNS
from waletexts.sums import begins_sum, read_sum
from waletexts.tokens import END, NAME, NUMBER, PLAIN
from waletexts.tree import Bracketed, Listed, Stat

HEADS = ("sizes", "yarns", "let", "word", "block")
STATS = ("on", "row", "repeat", "until", "work", "off")
LONES = ("take", "yarn", "mark", "pass", "clear", "turn", "fasten")
LARGEST_CROSSING = 16


# The whole tree: the statements at its top, with the pattern's own name and the heads before them.
def read_pattern(reader):
    reader.want("pattern")
    name = reader.want_kind(NAME)
    reader.want(";")
    stats = [Stat(["pattern", name.text], None)]
    while reader.peek().text in HEADS:
        stats.append(read_head(reader))
    stats.extend(read_stats(reader))
    reader.want_kind(END)
    return stats


def read_head(reader):
    token = reader.step()
    if token.text == "sizes":
        return read_sizes(reader, token)
    if token.text == "yarns":
        return read_yarns(reader, token)
    if token.text == "let":
        return read_let(reader)
    if token.text == "word":
        return read_word(reader)
    return read_block(reader)


def read_sizes(reader, token):
    if reader.names.amount(SIZES) > 0 or reader.names.amount(NUMBERS) > 0:
        raise AgainFault(token.place)
    return Stat(["sizes", read_new_names(reader, SIZES)], None)


def read_yarns(reader, token):
    if reader.names.amount(YARNS) > 0:
        raise AgainFault(token.place)
    return Stat(["yarns", read_new_names(reader, YARNS)], None)


def read_new_names(reader, kind):
    phrases = [[read_new_name(reader, kind)]]
    while reader.skip(","):
        phrases.append([read_new_name(reader, kind)])
    reader.want(";")
    return Listed(phrases)


def read_new_name(reader, kind):
    name = reader.want_new_name(kind)
    # Told at once, so that each is compared with those before it; nothing is used before the ';'.
    reader.names.tell(name, kind)
    return name.text


def read_let(reader):
    name = reader.want_new_name(NUMBERS)
    reader.want("=")
    phrases = [[read_sum(reader)]]
    while reader.skip(","):
        phrases.append([read_sum(reader)])
    reader.want(";")
    if len(phrases) != 1 and len(phrases) != reader.names.amount(SIZES):
        raise SumsFault(name.place)
    reader.names.tell(name, NUMBERS)
    return Stat(["let", name.text, "=", Listed(phrases)], None)


def read_word(reader):
    name = reader.want_new_name(WORDS)
    reader.want("=")
    listed = read_row_items(reader)
    reader.want(";")
    reader.names.tell(name, WORDS)
    return Stat(["word", name.text, "=", listed], None)


def read_block(reader):
    name = reader.want_new_name(BLOCKS)
    body = read_braces(reader)
    reader.names.tell(name, BLOCKS)
    return Stat(["block", name.text], body)


def read_braces(reader):
    reader.enter("{")
    stats = read_stats(reader)
    reader.leave("}")
    return stats


def read_stats(reader):
    stats = []
    while reader.peek().text in STATS:
        stats.append(read_stat(reader))
    return stats


def read_stat(reader):
    word = reader.step().text
    if word == "repeat" or word == "until":
        phrase = [word, read_sum(reader)]
        return Stat(phrase, read_braces(reader))
    phrase = [word]
    if word == "on":
        phrase.extend(read_on(reader))
    elif word == "row":
        phrase.extend(read_row(reader))
    elif word == "work":
        phrase.extend(read_work(reader))
    reader.want(";")
    return Stat(phrase, None)


def read_on(reader):
    phrase = [read_sum(reader)]
    if reader.skip("round"):
        phrase.append("round")
    return phrase


def read_row(reader):
    phrase = []
    if reader.peek().text in ("rs", "ws"):
        phrase.append(reader.step().text)
    phrase.append(read_row_items(reader))
    return phrase


def read_work(reader):
    phrase = [reader.want_told_name(BLOCKS)]
    if begins_sum(reader.peek()):
        phrase.append(read_sum(reader))
    return phrase


def read_row_items(reader):
    phrases = [read_row_item(reader)]
    while reader.skip(","):
        phrases.append(read_row_item(reader))
    return Listed(phrases)


def read_row_item(reader):
    if reader.peek().text in LONES:
        return read_lone(reader)
    phrase = read_unit(reader)
    if begins_sum(reader.peek()):
        phrase.append(read_sum(reader))
    elif reader.skip("to"):
        phrase.append("to")
        phrase.extend(read_goal(reader))
    return phrase


def read_goal(reader):
    if reader.skip("last"):
        return ["last", read_sum(reader)]
    if reader.skip("mark"):
        return ["mark", reader.want_standing_name(MARKERS)]
    reader.want("end")
    return ["end"]


def read_unit(reader):
    token = reader.peek()
    if token.text in PLAIN:
        return [reader.step().text]
    if token.text == "cl" or token.text == "cr":
        return read_crossing(reader)
    if reader.skip("hold"):
        return ["hold", reader.want_standing_name(HOLDERS)]
    if token.kind == NAME:
        return [reader.want_told_name(WORDS)]
    reader.enter("(")
    listed = read_row_items(reader)
    reader.leave(")")
    return [Bracketed(listed)]


def read_crossing(reader):
    word = reader.step().text
    left = read_crossing_number(reader)
    reader.want("/")
    right = read_crossing_number(reader)
    return [word, f"{left}/{right}"]


def read_crossing_number(reader):
    token = reader.want_kind(NUMBER)
    if token.number < 1 or token.number > LARGEST_CROSSING:
        raise BoundFault(token.place)
    return token.number


def read_lone(reader):
    word = reader.step().text
    if word == "take":
        return [word, reader.want_standing_name(HOLDERS)]
    if word == "yarn":
        return [word, reader.want_told_name(YARNS)]
    if word in ("mark", "pass", "clear"):
        return [word, reader.want_standing_name(MARKERS)]
    return [word]
