"""The way through a text from the left, a token at a time, with what the pattern has told so far."""

from waletexts.faults import BoundFault, WantFault
from waletexts.names import Names
from waletexts.tokens import NAME, token_at

DEEPEST = 8


class Reader:
    def __init__(self, t):
        self.source = t
        self.ahead = None
        self.after = 0
        self.depth = 0
        self.names = Names()

    def peek(self):
        # Looked up only once it is asked for: a fault of what stands before it is met first.
        if self.ahead is None:
            self.ahead = token_at(self.source, self.after)
        return self.ahead

    def step(self):
        token = self.peek()
        self.ahead = None
        self.after = token.after
        return token

    # Steps over the text if it is there, and tells whether it was.
    def skip(self, text):
        there = self.peek().text == text
        if there:
            self.step()
        return there

    def want(self, text):
        if self.peek().text != text:
            raise WantFault(self.peek().place)
        return self.step()

    def want_kind(self, kind):
        if self.peek().kind != kind:
            raise WantFault(self.peek().place)
        return self.step()

    def enter(self, text):
        token = self.want(text)
        if self.depth == DEEPEST:
            raise BoundFault(token.place)
        self.depth += 1

    def leave(self, text):
        self.want(text)
        self.depth -= 1

    def want_new_name(self, kind):
        token = self.want_kind(NAME)
        self.names.check_new(token, kind)
        return token

    def want_told_name(self, kind):
        token = self.want_kind(NAME)
        self.names.check_told(token, kind)
        return token.text

    def want_standing_name(self, kind):
        token = self.want_kind(NAME)
        self.names.stand(token, kind)
        return token.text
