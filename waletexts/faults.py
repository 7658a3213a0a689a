"""The faults of a text, one class for each kind: a fault knows its kind's number and its place."""


class Fault(Exception):
    def __init__(self, kind, place):
        self.kind = kind
        self.place = place


# A byte that can't be there.
class ByteFault(Fault):
    def __init__(self, place):
        Fault.__init__(self, 1, place)


# A number that is none.
class NumberFault(Fault):
    def __init__(self, place):
        Fault.__init__(self, 2, place)


# Something else is wanted.
class WantFault(Fault):
    def __init__(self, place):
        Fault.__init__(self, 3, place)


# A name that isn't told, or is of another kind.
class UntoldFault(Fault):
    def __init__(self, place):
        Fault.__init__(self, 4, place)


# A name, or the sizes or yarns, told already; sizes behind a let.
class AgainFault(Fault):
    def __init__(self, place):
        Fault.__init__(self, 5, place)


# More than the bounds.
class BoundFault(Fault):
    def __init__(self, place):
        Fault.__init__(self, 6, place)


# Not as many sums as sizes.
class SumsFault(Fault):
    def __init__(self, place):
        Fault.__init__(self, 7, place)
