"""Outcomes: values and faults.

A number is an int. A list is a tuple of three: the tuple of its members, how many parts it has, and
its depth. So no list has to be gone through again to learn its size, and equal lists are equal tuples.
"""

LARGEST_NUMBER = 999999999999999999
MOST_PARTS = 400
MOST_DEPTH = 20

WRONG_KIND = 1
OUT_OF_RANGE = 2
DIVISION_BY_ZERO = 3
NO_SUCH_PLACE = 4
TOO_LARGE = 5


class Fault:
    def __init__(self, number):
        self.number = number


def is_fault(outcome):
    return isinstance(outcome, Fault)


def is_number(outcome):
    return isinstance(outcome, int)


def is_list(outcome):
    return isinstance(outcome, tuple)


def members_of(value):
    return value[0]


def parts_of(value):
    return 1 if is_number(value) else value[1]


def depth_of(value):
    return 0 if is_number(value) else value[2]


def number_or_fault(number):
    if abs(number) > LARGEST_NUMBER:
        return Fault(OUT_OF_RANGE)
    return number


def list_or_fault(members):
    parts = 1 + sum([parts_of(member) for member in members])
    depth = 1 + max([depth_of(member) for member in members], default=0)
    if parts > MOST_PARTS or depth > MOST_DEPTH:
        return Fault(TOO_LARGE)
    return (members, parts, depth)


def flat_form(outcome):
    if is_fault(outcome):
        return [2, outcome.number]
    row = []
    waiting = [outcome]
    while waiting:
        value = waiting.pop()
        if is_number(value):
            row.extend([0, value])
        else:
            row.extend([1, len(members_of(value))])
            waiting.extend(list(reversed(members_of(value))))
    return row
