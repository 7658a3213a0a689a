"""The form: the one text that a tree is printed as.

The functions call one another only as deep as braces and brackets may stand in one another.
"""

from waletexts.tree import Bracketed, Chain, Listed

DEEPER = "  "


def form_of(stats):
    lines = []
    write_stats(lines, stats, "")
    return "".join([line + "\n" for line in lines])


def write_stats(lines, stats, indent):
    for stat in stats:
        write_stat(lines, stat, indent)


def write_stat(lines, stat, indent):
    start = indent + phrase_text(stat.phrase)
    if stat.body is None:
        lines.append(start + ";")
        return
    lines.append(start + " {")
    write_stats(lines, stat.body, indent + DEEPER)
    lines.append(indent + "}")


def phrase_text(phrase):
    return " ".join([part_text(part) for part in phrase])


def part_text(part):
    if isinstance(part, Listed):
        return listed_text(part)
    if isinstance(part, Bracketed):
        return "(" + listed_text(part.listed) + ")"
    return sum_text(part)


def listed_text(listed):
    return ", ".join([phrase_text(phrase) for phrase in listed.phrases])


def sum_text(node):
    if not isinstance(node, Chain):
        return node
    texts = [operand_text(node, node.first)]
    for sign, operand in node.pairs:
        texts.append(sign + operand_text(node, operand))
    return "".join(texts)


# A chain never begins with one of its own level, so what is told of a sign's right holds of every operand.
def operand_text(chain, operand):
    if isinstance(operand, Chain) and operand.level <= chain.level:
        return "(" + sum_text(operand) + ")"
    return sum_text(operand)
