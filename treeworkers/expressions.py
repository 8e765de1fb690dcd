"""Reads expressions off tokens, as trees of parts.

The kinds of parts are number, own (for #), occurrence, if, list, negative (- before one argument),
the signs of the other operators and the names of the calls.
"""

from treeworkers.errors import need

MOST_PARTS = 60
MOST_LEVELS = 30

RANKS = {"|": 1, "&": 2, "=": 3, "<": 3, "+": 4, "-": 4, "*": 5, "/": 5, "mod": 5}
LOWEST_RANK = 1
COMPARISON_RANK = 3
HIGHEST_RANK = 5

SIGNED_KINDS = {"-": "negative", "!": "!"}

ARGUMENT_COUNTS = {"len": 1, "at": 2, "cat": 2, "look": 3, "drop": 2, "has": 2, "max": 2, "min": 2}


class Part:
    def __init__(self, kind, value, arguments):
        self.kind = kind
        self.value = value
        self.arguments = arguments


class Expression:
    def __init__(self, top, occurrences, uses_own):
        self.top = top
        self.occurrences = occurrences
        self.uses_own = uses_own


# What is counted and collected while one expression is read.
class Draft:
    def __init__(self, reader):
        self.reader = reader
        self.part_count = 0
        self.level_count = 0
        self.occurrences = {}
        self.uses_own = False

    def enter(self):
        self.level_count += 1
        need(self.level_count <= MOST_LEVELS)

    def leave(self):
        self.level_count -= 1

    def part(self, kind, value, arguments):
        self.part_count += 1
        need(self.part_count <= MOST_PARTS)
        return Part(kind, value, arguments)

    def occurrence(self, place, name):
        self.occurrences[(place, name)] = True
        return self.part("occurrence", (place, name), [])


def read_expression(reader):
    draft = Draft(reader)
    top = read_whole(draft)
    return Expression(top, list(draft.occurrences), draft.uses_own)


def read_whole(draft):
    if draft.reader.sees("if"):
        return read_if(draft)
    return read_operators(draft, LOWEST_RANK)


def read_if(draft):
    draft.reader.take("if")
    draft.enter()
    asked = read_whole(draft)
    draft.reader.take("then")
    taken = read_whole(draft)
    draft.reader.take("else")
    other = read_whole(draft)
    draft.leave()
    return draft.part("if", 0, [asked, taken, other])


# The operators of all ranks are read by one loop, so that the calls within one another stay few.
def read_operators(draft, lowest):
    left = read_signed(draft)
    highest = HIGHEST_RANK
    rank = RANKS.get(draft.reader.next_kind(), 0)
    while lowest <= rank <= highest:
        sign = draft.reader.next_kind()
        draft.reader.take(sign)
        right = read_operators(draft, rank + 1)
        left = draft.part(sign, 0, [left, right])
        # A comparison is no side of another one, unless brackets stand round it.
        highest = rank - 1 if rank == COMPARISON_RANK else rank
        rank = RANKS.get(draft.reader.next_kind(), 0)
    return left


def read_signed(draft):
    sign = draft.reader.next_kind()
    if sign not in SIGNED_KINDS:
        return read_atom(draft)
    draft.reader.take(sign)
    draft.enter()
    argument = read_signed(draft)
    draft.leave()
    return draft.part(SIGNED_KINDS[sign], 0, [argument])


def read_atom(draft):
    reader = draft.reader
    if reader.sees("number"):
        return read_number_or_placed(draft)
    if reader.sees("small"):
        return read_call_or_occurrence(draft)
    if reader.skips("#"):
        draft.uses_own = True
        return draft.part("own", 0, [])
    if reader.skips("["):
        return draft.part("list", 0, read_arguments(draft, "]"))
    reader.take("(")
    draft.enter()
    inside = read_whole(draft)
    reader.take(")")
    draft.leave()
    return inside


def read_number_or_placed(draft):
    number = draft.reader.take("number")
    if draft.reader.skips("."):
        return draft.occurrence(number, draft.reader.take("small"))
    return draft.part("number", number, [])


def read_call_or_occurrence(draft):
    name = draft.reader.take("small")
    if not draft.reader.skips("("):
        return draft.occurrence(0, name)
    need(name in ARGUMENT_COUNTS)
    arguments = read_arguments(draft, ")")
    need(len(arguments) == ARGUMENT_COUNTS[name])
    return draft.part(name, 0, arguments)


def read_arguments(draft, closing):
    draft.enter()
    arguments = []
    if not draft.reader.sees(closing):
        arguments.append(read_whole(draft))
        while draft.reader.skips(","):
            arguments.append(read_whole(draft))
    draft.reader.take(closing)
    draft.leave()
    return arguments
