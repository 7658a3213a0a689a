"""The names of a pattern: what each is told to be, and how many there may be of a kind."""

from waletexts.faults import AgainFault, BoundFault, UntoldFault

SIZES = "sizes"
YARNS = "yarns"
NUMBERS = "numbers"
WORDS = "words"
BLOCKS = "blocks"
MARKERS = "markers"
HOLDERS = "holders"

BOUNDS = {"sizes": 16, "yarns": 16, "numbers": 256, "words": 64, "blocks": 64, "markers": 64, "holders": 16}


class Names:
    def __init__(self):
        self.told = {}
        self.standing = {}
        self.amounts = {}

    def amount(self, kind):
        return self.amounts.get(kind, 0)

    def check_new(self, token, kind):
        if token.text in self.told:
            raise AgainFault(token.place)
        self.check_room(token, kind)

    def check_room(self, token, kind):
        if self.amount(kind) == BOUNDS[kind]:
            raise BoundFault(token.place)

    def tell(self, token, kind):
        self.told[token.text] = kind
        self.amounts[kind] = self.amount(kind) + 1

    def check_told(self, token, kind):
        if self.told.get(token.text, "") != kind:
            raise UntoldFault(token.place)

    # Markers and holders are told by standing there, each kind beside all other names.
    def stand(self, token, kind):
        if (kind, token.text) in self.standing:
            return
        self.check_room(token, kind)
        self.standing[(kind, token.text)] = True
        self.amounts[kind] = self.amount(kind) + 1
