"""What an expression is worth."""

from treeworkers.operations import operate
from treeworkers.outcomes import WRONG_KIND, Fault, is_fault, is_list


# Outcomes has the outcome of each occurrence; own is the number that the node holds.
def worth(part, outcomes, own):
    if part.kind == "number":
        return part.value
    if part.kind == "own":
        return own
    if part.kind == "occurrence":
        return outcomes[part.value]
    if part.kind == "if":
        return worth_of_if(part, outcomes, own)
    if part.kind == "&" or part.kind == "|":
        return worth_of_pair(part, outcomes, own)
    return worth_of_operation(part, outcomes, own)


def truth(outcome):
    if is_fault(outcome):
        return outcome
    if is_list(outcome):
        return Fault(WRONG_KIND)
    return 0 if outcome == 0 else 1


def worth_of_if(part, outcomes, own):
    asked = truth(worth(part.arguments[0], outcomes, own))
    if is_fault(asked):
        return asked
    return worth(part.arguments[2 - asked], outcomes, own)


def worth_of_pair(part, outcomes, own):
    settling = 0 if part.kind == "&" else 1
    first = truth(worth(part.arguments[0], outcomes, own))
    if is_fault(first) or first == settling:
        return first
    return truth(worth(part.arguments[1], outcomes, own))


def worth_of_operation(part, outcomes, own):
    values = []
    for argument in part.arguments:
        outcome = worth(argument, outcomes, own)
        if is_fault(outcome):
            return outcome
        values.append(outcome)
    return operate(part.kind, values)
