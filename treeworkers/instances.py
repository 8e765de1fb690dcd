"""The instances of a tree, in their order, each with its equation and what that names."""


# Equation and equation_node are None for what is handed down to the root.
class Instance:
    def __init__(self, node, attribute, equation, equation_node):
        self.node = node
        self.attribute = attribute
        self.equation = equation
        self.equation_node = equation_node
        self.meanings = {}


class Tree:
    def __init__(self, grammar, nodes):
        self.nodes = nodes
        self.symbols = [grammar.symbol_called(node.production.left) for node in nodes]
        self.firsts = first_instances(self.symbols)
        self.instances = build_instances(self)
        for instance in self.instances:
            find_meanings(self, instance)


# Instances are numbered through the whole tree, so that their order is that of their numbers.
def first_instances(symbols):
    firsts = []
    count = 0
    for symbol in symbols:
        firsts.append(count)
        count += len(symbol.attributes)
    return firsts


def build_instances(tree):
    instances = []
    for number, symbol in enumerate(tree.symbols):
        for attribute, name in enumerate(symbol.attributes):
            instances.append(build_instance(tree, number, attribute, name))
    return instances


def build_instance(tree, number, attribute, name):
    node = tree.nodes[number]
    if name in tree.symbols[number].up:
        return Instance(number, attribute, node.production.equation_of((0, name)), number)
    if node.parent is None:
        return Instance(number, attribute, None, None)
    parent = tree.nodes[node.parent]
    return Instance(number, attribute, parent.production.equation_of((node.place, name)), node.parent)


def find_meanings(tree, instance):
    if instance.equation is None:
        return
    for occurrence in instance.equation.occurrences:
        instance.meanings[occurrence] = meaning(tree, instance.equation_node, occurrence)


def meaning(tree, equation_node, occurrence):
    place = occurrence[0]
    number = equation_node
    if place > 0:
        number = tree.nodes[equation_node].children[place - 1]
    return tree.firsts[number] + tree.symbols[number].attributes.index(occurrence[1])
