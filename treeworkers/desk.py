"""The desk takes calls, written as one list of whole numbers, and gives back what they answer."""

from treeworkers.errors import Unreadable
from treeworkers.grammars import read_grammar
from treeworkers.instances import Tree
from treeworkers.outcomes import flat_form
from treeworkers.soundness import check_grammar
from treeworkers.trees import read_tree
from treeworkers.work import (
    Work, count_ready, count_unknown, deliver_message, double_message, forget_all, resend_known, take_all_turns,
    work_out_ready,
)

# The calls behind this one are for work that has begun.
BEGIN = 3

MOST_BYTES = 3000
MOST_WORKERS = 8
MOST_WORKED_OUT = 1000
FULL_WIRE = 500

# What knows answers where there is no outcome to tell.
NOT_KNOWN = 1

TEXT_TOO_LONG = -1
NO_GRAMMAR_TEXT = -2
NO_GRAMMAR_HELD = -3
NO_TREE_TEXT = -4
NO_TREE_HELD = -5
NOT_BEGUN = -6
CUT_ALREADY = -8
BEGUN_ALREADY = -9
NO_SUCH_NODE = -10
TOO_MANY_WORKERS = -11
NO_SUCH_ATTRIBUTE = -12
NO_SUCH_WORKER = -13
WRONG_MOST = -14
WIRE_IS_FULL = -15
NO_SUCH_MESSAGE = -16


class Desk:
    def __init__(self):
        self.grammar = None
        self.tree = None
        self.cuts = []
        self.work = None


def is_place(number, things):
    return 0 <= number < len(things)


def is_full(messages):
    return len(messages) > FULL_WIRE


# None stands where the instance is there.
def refusal_of_instance(tree, node, attribute):
    if not is_place(node, tree.nodes):
        return NO_SUCH_NODE
    if not is_place(attribute, tree.symbols[node].attributes):
        return NO_SUCH_ATTRIBUTE
    return None


def call_grammar(desk, text):
    if len(text) > MOST_BYTES:
        return [TEXT_TOO_LONG]
    try:
        grammar = read_grammar(text)
        check_grammar(grammar)
    except Unreadable:
        return [NO_GRAMMAR_TEXT]
    desk.grammar = grammar
    desk.tree = None
    desk.work = None
    return [0, len(grammar.symbols), len(grammar.productions)]


def call_tree(desk, text):
    if desk.grammar is None:
        return [NO_GRAMMAR_HELD]
    if len(text) > MOST_BYTES:
        return [TEXT_TOO_LONG]
    try:
        nodes = read_tree(text, desk.grammar)
    except Unreadable:
        return [NO_TREE_TEXT]
    desk.tree = Tree(desk.grammar, nodes)
    desk.cuts = [0]
    desk.work = None
    return [0, len(nodes), len(desk.tree.instances)]


def call_cut(desk, numbers):
    node = numbers[0]
    if desk.tree is None:
        return [NO_TREE_HELD]
    if desk.work is not None:
        return [BEGUN_ALREADY]
    if not is_place(node, desk.tree.nodes):
        return [NO_SUCH_NODE]
    if node in desk.cuts:
        return [CUT_ALREADY]
    if len(desk.cuts) == MOST_WORKERS:
        return [TOO_MANY_WORKERS]
    desk.cuts.append(node)
    return [0, len(desk.cuts) - 1]


def call_begin(desk, numbers):
    if desk.tree is None:
        return [NO_TREE_HELD]
    if desk.work is not None:
        return [BEGUN_ALREADY]
    desk.work = Work(desk.tree, desk.cuts)
    return [0] + desk.work.owners


def call_home(desk, numbers):
    refusal = refusal_of_instance(desk.tree, numbers[0], numbers[1])
    if refusal is not None:
        return [refusal]
    instance = desk.tree.firsts[numbers[0]] + numbers[1]
    receiver = desk.work.receivers[instance]
    if receiver is None:
        return [0, desk.work.homes[instance]]
    return [0, desk.work.homes[instance], receiver]


def call_work(desk, numbers):
    worker = numbers[0]
    most = numbers[1]
    if not is_place(worker, desk.work.known):
        return [NO_SUCH_WORKER]
    if most < 0 or most > MOST_WORKED_OUT:
        return [WRONG_MOST]
    if is_full(desk.work.messages):
        return [WIRE_IS_FULL]
    counts = work_out_ready(desk.work, worker, most)
    return [0, counts[0], counts[1]]


def instance_pair(desk, number):
    instance = desk.tree.instances[number]
    return [instance.node, instance.attribute]


def call_wire(desk, numbers):
    row = [0]
    for message in desk.work.messages:
        row.extend([message.sender, message.receiver])
        row.extend(instance_pair(desk, message.instance))
        row.extend(flat_form(message.outcome))
    return row


def call_deliver(desk, numbers):
    if not is_place(numbers[0], desk.work.messages):
        return [NO_SUCH_MESSAGE]
    message = desk.work.messages[numbers[0]]
    fresh = 1 if deliver_message(desk.work, numbers[0]) else 0
    return [0, message.receiver] + instance_pair(desk, message.instance) + [fresh]


def call_double(desk, numbers):
    if not is_place(numbers[0], desk.work.messages):
        return [NO_SUCH_MESSAGE]
    if is_full(desk.work.messages):
        return [WIRE_IS_FULL]
    double_message(desk.work, numbers[0])
    return [0]


def call_lose(desk, numbers):
    if not is_place(numbers[0], desk.work.messages):
        return [NO_SUCH_MESSAGE]
    desk.work.messages.pop(numbers[0])
    return [0]


def call_forget(desk, numbers):
    if not is_place(numbers[0], desk.work.known):
        return [NO_SUCH_WORKER]
    return [0, forget_all(desk.work, numbers[0])]


def call_resend(desk, numbers):
    if not is_place(numbers[0], desk.work.known):
        return [NO_SUCH_WORKER]
    if is_full(desk.work.messages):
        return [WIRE_IS_FULL]
    return [0, resend_known(desk.work, numbers[0])]


def call_all(desk, numbers):
    counts = take_all_turns(desk.work)
    return [0, counts[0], counts[1]]


def call_knows(desk, numbers):
    if not is_place(numbers[0], desk.work.known):
        return [NO_SUCH_WORKER]
    refusal = refusal_of_instance(desk.tree, numbers[1], numbers[2])
    if refusal is not None:
        return [refusal]
    known = desk.work.known[numbers[0]]
    instance = desk.tree.firsts[numbers[1]] + numbers[2]
    if instance not in known:
        return [NOT_KNOWN]
    return [0] + flat_form(known[instance])


def call_status(desk, numbers):
    work = desk.work
    return [0, count_unknown(work), count_ready(work), len(work.messages), work.put_count]


CALLS = {
    0: call_grammar, 1: call_tree, 2: call_cut, 3: call_begin, 4: call_home, 5: call_work, 6: call_wire,
    7: call_deliver, 8: call_double, 9: call_lose, 10: call_forget, 11: call_resend, 12: call_all, 13: call_knows,
    14: call_status,
}

TEXT_CALLS = (0, 1)

# How many numbers a call takes that takes no text.
NUMBER_COUNTS = {2: 1, 3: 0, 4: 2, 5: 2, 6: 0, 7: 1, 8: 1, 9: 1, 10: 1, 11: 1, 12: 0, 13: 3, 14: 0}


def answer_call(desk, call, handed):
    if call > BEGIN and desk.work is None:
        return [NOT_BEGUN]
    return CALLS[call](desk, handed)


def answers(calls):
    desk = Desk()
    given = []
    spot = 0
    while spot < len(calls):
        call = calls[spot]
        start = spot + 1
        if call in TEXT_CALLS:
            start = spot + 2
            end = start + calls[spot + 1]
        else:
            end = start + NUMBER_COUNTS[call]
        answer = answer_call(desk, call, calls[start:end])
        given.append(len(answer))
        given.extend(answer)
        spot = end
    return given
