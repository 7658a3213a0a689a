"""The calls: what is asked of pattern texts."""

from waletexts.alike import same_stats
from waletexts.faults import BoundFault, Fault
from waletexts.form import form_of
from waletexts.grammar import read_pattern
from waletexts.reader import Reader

LONGEST_TEXT = 16384


# [0] if t is a right text, else its refusal.
def judge(t):
    try:
        read_text(t)
    except Fault as fault:
        return refusal(fault)
    return [0]


# How many bytes the form of t has and then they, or the refusal of t.
def print_form(t):
    try:
        form = form_of(read_text(t))
    except Fault as fault:
        return refusal(fault)
    return [len(form)] + [ord(sign) for sign in form]


# [1] if t and u are one tree, [0] if they are two, or the refusal of t if it has a fault, else that of u.
def same(t, u):
    try:
        one = read_text(t)
        other = read_text(u)
    except Fault as fault:
        return refusal(fault)
    return [1 if same_stats(one, other) else 0]


def read_text(t):
    if len(t) > LONGEST_TEXT:
        raise BoundFault(LONGEST_TEXT)
    return read_pattern(Reader(t))


def refusal(fault):
    return [-fault.kind, fault.place]
