"""How the tests write calls and read answers."""

from treeworkers.desk import answers

EXAMPLE = """S > v; E d > v;
top S: E { v = 1.v; 1.d = 0; }
lit E #: { v = # + d; }
add E: E E { v = 1.v + 2.v; 1.d = d + 1; 2.d = d + 1; ? v < 100; }
"""

SMALL = "S > v; E d > v; top S: E { v = 1.v; 1.d = 4; } lit E #: { v = # + d; }"

GREATEST = 10 ** 18

# Worker 0 sends four outcomes to each of five others, and gets none.
MANY = """S > ; E a b c d > ; F x > ;
three S: E E E { 1.a = 1; 1.b = 2; 1.c = 3; 1.d = 4; 2.a = 5; 2.b = 6; 2.c = 7; 2.d = 8; 3.a = 9; 3.b = 10; 3.c = 11;
                 3.d = 12; }
top S: S E E { 2.a = 13; 2.b = 14; 2.c = 15; 2.d = 16; 3.a = 17; 3.b = 18; 3.c = 19; 3.d = 20; }
mid E: F { 1.x = a + b + c + d; }
leaf F: { }
"""


def to_bytes(text):
    return list(text) if isinstance(text, (list, bytes)) else list(text.encode("utf-8"))


def grammar(text):
    return [0, len(to_bytes(text))] + to_bytes(text)


def tree(text):
    return [1, len(to_bytes(text))] + to_bytes(text)


def cut(node):
    return [2, node]


def begin():
    return [3]


def home(node, attribute):
    return [4, node, attribute]


def work(worker, most=1000):
    return [5, worker, most]


def wire():
    return [6]


def deliver(message):
    return [7, message]


def double(message):
    return [8, message]


def lose(message):
    return [9, message]


def forget(worker):
    return [10, worker]


def resend(worker):
    return [11, worker]


def work_all():
    return [12]


def knows(worker, node, attribute):
    return [13, worker, node, attribute]


def status():
    return [14]


def parted(row):
    """The answers of single calls, out of what is given back for all of them."""
    found = []
    spot = 0
    while spot < len(row):
        end = spot + 1 + row[spot]
        assert row[spot] >= 1 and end <= len(row), row
        found.append(row[spot + 1:end])
        spot = end
    return found


def ask(*calls):
    """The answers of these calls, one list of numbers for each."""
    found = parted(answers([number for call in calls for number in call]))
    assert len(found) == len(calls), found
    return found


def last(*calls):
    return ask(*calls)[-1]


def full_wire():
    """Calls behind which 500 messages are on the wire, the next of which are like the first 20 again."""
    text = "top(three(mid(leaf), mid(leaf), mid(leaf)), mid(leaf), mid(leaf))"
    cuts = [cut(node) for node in (2, 4, 6, 8, 10)]
    return [grammar(MANY), tree(text), *cuts, begin(), work(0)] + [resend(0)] * 24


def holding(expression, given="0"):
    """A grammar whose node 1, of the production leaf, works out the expression; d there is the given one."""
    return ("S > r; E d > v; top S: E { r = 1.v; 1.d = " + given + "; } "
            "leaf E #: { v = " + expression + "; }")


def reads(expression):
    """Whether the expression stands in a grammar; of others than -2 and 0 nothing is answered."""
    answer = last(grammar(holding(expression)))
    assert answer in ([0, 2, 2], [-2]), answer
    return answer == [0, 2, 2]


def outcome(expression, given="0", own="7"):
    """The flat form of what the expression is worth."""
    found = ask(
        grammar(holding(expression, given)), tree("top(leaf " + own + ")"), cut(1), begin(),
        work(0), deliver(0), work(1), wire())
    assert found[0] == [0, 2, 2] and found[1] == [0, 2, 3], found
    message = found[-1]
    assert message[:5] == [0, 1, 0, 1, 1], message
    return message[5:]
