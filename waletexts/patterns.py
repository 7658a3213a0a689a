"""The calls: what is asked of pattern texts."""

from waletexts.faults import BoundFault, Fault
from waletexts.form import form_of
from waletexts.grammar import read_pattern
from waletexts.reader import Reader

LONGEST_TEXT = 16384


# [0] if t is a right text, else its refusal.
def judge(t):
    try:
        read_text(t)
    except Fault as fault:
        return refusal(fault)
    return [0]


# How many bytes the form of t has and then they, or the refusal of t.
def print_form(t):
    try:
        form = form_of(read_text(t))
    except Fault as fault:
        return refusal(fault)
    return [len(form)] + [ord(sign) for sign in form]


def read_text(t):
    if len(t) > LONGEST_TEXT:
        raise BoundFault(LONGEST_TEXT)
    return read_pattern(Reader(t))


def refusal(fault):
    return [-fault.kind, fault.place]
