"""What the operations make of their arguments' values, where none of these is a fault."""

from treeworkers.outcomes import (
    DIVISION_BY_ZERO, NO_SUCH_PLACE, WRONG_KIND, Fault, is_list, is_number, list_or_fault, members_of,
    number_or_fault,
)


def negative(numbers):
    return number_or_fault(-numbers[0])


def plus(numbers):
    return number_or_fault(numbers[0] + numbers[1])


def minus(numbers):
    return number_or_fault(numbers[0] - numbers[1])


def times(numbers):
    return number_or_fault(numbers[0] * numbers[1])


def quotient(numbers):
    if numbers[1] == 0:
        return Fault(DIVISION_BY_ZERO)
    return numbers[0] // numbers[1]


def remainder(numbers):
    if numbers[1] == 0:
        return Fault(DIVISION_BY_ZERO)
    return numbers[0] % numbers[1]


def opposite_truth(numbers):
    return 1 if numbers[0] == 0 else 0


def less(numbers):
    return 1 if numbers[0] < numbers[1] else 0


def greater_one(numbers):
    return max(numbers)


def lesser_one(numbers):
    return min(numbers)


def listed(values):
    return list_or_fault(tuple(values))


def equal(values):
    return 1 if values[0] == values[1] else 0


def has(values):
    if not is_list(values[0]):
        return Fault(WRONG_KIND)
    return 1 if values[1] in members_of(values[0]) else 0


def joined(values):
    if not is_list(values[0]) or not is_list(values[1]):
        return Fault(WRONG_KIND)
    return list_or_fault(members_of(values[0]) + members_of(values[1]))


def length(values):
    if not is_list(values[0]):
        return Fault(WRONG_KIND)
    return len(members_of(values[0]))


def member_at(values):
    if not is_list(values[0]) or not is_number(values[1]):
        return Fault(WRONG_KIND)
    members = members_of(values[0])
    if values[1] < 0 or values[1] >= len(members):
        return Fault(NO_SUCH_PLACE)
    return members[values[1]]


def dropped(values):
    if not is_list(values[0]) or not is_number(values[1]):
        return Fault(WRONG_KIND)
    members = members_of(values[0])
    if values[1] < 0 or values[1] > len(members):
        return Fault(NO_SUCH_PLACE)
    return list_or_fault(members[values[1]:])


def is_pair(value):
    return is_list(value) and len(members_of(value)) == 2


def looked_up(values):
    if not is_list(values[0]):
        return Fault(WRONG_KIND)
    for member in members_of(values[0]):
        if is_pair(member) and members_of(member)[0] == values[1]:
            return members_of(member)[1]
    return values[2]


OF_NUMBERS = {
    "negative": negative, "+": plus, "-": minus, "*": times, "/": quotient, "mod": remainder,
    "!": opposite_truth, "<": less, "max": greater_one, "min": lesser_one,
}

OF_ANY = {
    "list": listed, "=": equal, "has": has, "cat": joined, "len": length,
    "at": member_at, "drop": dropped, "look": looked_up,
}


def operate(kind, values):
    if kind in OF_ANY:
        return OF_ANY[kind](values)
    if not all([is_number(value) for value in values]):
        return Fault(WRONG_KIND)
    return OF_NUMBERS[kind](values)
