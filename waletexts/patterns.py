"""The calls: what is asked of pattern texts."""

from waletexts.faults import BoundFault, Fault
from waletexts.grammar import read_pattern
from waletexts.reader import Reader

LONGEST_TEXT = 16384


# [0] if t is a right text, else minus its first fault's kind and the fault's place.
def judge(t):
    try:
        read_text(t)
    except Fault as fault:
        return [-fault.kind, fault.place]
    return [0]


def read_text(t):
    if len(t) > LONGEST_TEXT:
        raise BoundFault(LONGEST_TEXT)
    read_pattern(Reader(t))
