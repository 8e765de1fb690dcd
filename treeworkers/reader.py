"""Goes through the tokens of a text, one behind the other."""

from treeworkers.errors import need
from treeworkers.tokens import split_tokens


class Reader:
    def __init__(self, text):
        self.tokens = split_tokens(text)
        self.spot = 0

    def next_kind(self):
        return self.tokens[self.spot][0]

    def sees(self, kind):
        return self.next_kind() == kind

    def take(self, kind):
        need(self.sees(kind))
        value = self.tokens[self.spot][1]
        self.spot += 1
        return value

    def skips(self, kind):
        seen = self.sees(kind)
        if seen:
            self.spot += 1
        return seen

    def take_all(self, kind):
        taken = []
        while self.sees(kind):
            taken.append(self.take(kind))
        return taken
