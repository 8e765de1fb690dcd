"""How the tests write calls and read answers."""

from treeworkers.desk import answers

EXAMPLE = """S > v; E d > v;
top S: E { v = 1.v; 1.d = 0; }
lit E #: { v = # + d; }
add E: E E { v = 1.v + 2.v; 1.d = d + 1; 2.d = d + 1; ? v < 100; }
"""

SMALL = "S > v; E d > v; top S: E { v = 1.v; 1.d = 4; } lit E #: { v = # + d; }"

GREATEST = 10 ** 18


def to_bytes(text):
    return list(text) if isinstance(text, (list, bytes)) else list(text.encode("utf-8"))


def grammar(text):
    return [0, len(to_bytes(text))] + to_bytes(text)


def tree(text):
    return [1, len(to_bytes(text))] + to_bytes(text)


def cut(node):
    return [2, node]


def begin():
    return [3]


def home(node, attribute):
    return [4, node, attribute]


def work(worker, most=1000):
    return [5, worker, most]


def wire():
    return [6]


def deliver(message):
    return [7, message]


def parted(row):
    """The answers of single calls, out of what is given back for all of them."""
    found = []
    spot = 0
    while spot < len(row):
        end = spot + 1 + row[spot]
        assert row[spot] >= 1 and end <= len(row), row
        found.append(row[spot + 1:end])
        spot = end
    return found


def ask(*calls):
    """The answers of these calls, one list of numbers for each."""
    found = parted(answers([number for call in calls for number in call]))
    assert len(found) == len(calls), found
    return found


def last(*calls):
    return ask(*calls)[-1]


def holding(expression, given="0"):
    """A grammar whose node 1, of the production leaf, works out the expression; d there is the given one."""
    return ("S > r; E d > v; top S: E { r = 1.v; 1.d = " + given + "; } "
            "leaf E #: { v = " + expression + "; }")


def reads(expression):
    """Whether the expression stands in a grammar; of others than -2 and 0 nothing is answered."""
    answer = last(grammar(holding(expression)))
    assert answer in ([0, 2, 2], [-2]), answer
    return answer == [0, 2, 2]


def outcome(expression, given="0", own="7"):
    """The flat form of what the expression is worth."""
    found = ask(
        grammar(holding(expression, given)), tree("top(leaf " + own + ")"), cut(1), begin(),
        work(0), deliver(0), work(1), wire())
    assert found[0] == [0, 2, 2] and found[1] == [0, 2, 3], found
    message = found[-1]
    assert message[:5] == [0, 1, 0, 1, 1], message
    return message[5:]
