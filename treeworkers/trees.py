"""Trees of a grammar, and how they are read off a text."""

from treeworkers.errors import need
from treeworkers.reader import Reader

MOST_NODES = 60
MOST_LEVELS = 24


# The root has no parent, and the place 0.
class Node:
    def __init__(self, production, number, parent, place):
        self.production = production
        self.number = number
        self.parent = parent
        self.place = place
        self.children = []


def read_tree(text, grammar):
    reader = Reader(text)
    nodes = []
    above = []
    unfinished = True
    while unfinished:
        need(len(nodes) < MOST_NODES and len(above) < MOST_LEVELS)
        nodes.append(read_node(reader, grammar, nodes, above))
        if reader.skips("("):
            above.append(len(nodes) - 1)
        else:
            unfinished = goes_on(reader, above)
    reader.take("end")
    check_children(nodes)
    return nodes


def read_node(reader, grammar, nodes, above):
    production = grammar.production_called(reader.take("small"))
    need(production is not None)
    number = read_number(reader, production)
    if not above:
        return Node(production, number, None, 0)
    siblings = nodes[above[-1]].children
    siblings.append(len(nodes))
    return Node(production, number, above[-1], len(siblings))


def read_number(reader, production):
    if not production.holds_number:
        return None
    if reader.skips("-"):
        return -reader.take("number")
    return reader.take("number")


# Closes what ends behind a node that has all its children; tells whether another node follows.
def goes_on(reader, above):
    while above and reader.skips(")"):
        above.pop()
    if above:
        reader.take(",")
    return len(above) > 0


def check_children(nodes):
    for node in nodes:
        wanted = node.production.children
        found = [nodes[child].production.left for child in node.children]
        need(found == wanted)
