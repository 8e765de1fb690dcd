"""Grammars: their symbols, productions and rules, and how these are read off a text."""

from treeworkers.expressions import read_expression
from treeworkers.reader import Reader


class Symbol:
    def __init__(self, name, down, up):
        self.name = name
        self.down = down
        self.up = up
        self.attributes = down + up


# The target of a condition is None.
class Rule:
    def __init__(self, target, expression):
        self.target = target
        self.expression = expression


class Production:
    def __init__(self, name, left, holds_number, children, rules):
        self.name = name
        self.left = left
        self.holds_number = holds_number
        self.children = children
        self.rules = rules

    def symbol_at(self, place):
        if place == 0:
            return self.left
        return self.children[place - 1]

    def equation_of(self, target):
        for rule in self.rules:
            if rule.target == target:
                return rule.expression
        return None


class Grammar:
    def __init__(self, symbols, productions):
        self.symbols = symbols
        self.productions = productions

    def symbol_called(self, name):
        return named(self.symbols, name)

    def production_called(self, name):
        return named(self.productions, name)


def named(things, name):
    for thing in things:
        if thing.name == name:
            return thing
    return None


def read_grammar(text):
    reader = Reader(text)
    symbols = []
    productions = []
    while not reader.sees("end"):
        if reader.sees("great"):
            symbols.append(read_symbol(reader))
        else:
            productions.append(read_production(reader))
    return Grammar(symbols, productions)


def read_symbol(reader):
    name = reader.take("great")
    down = reader.take_all("small")
    reader.take(">")
    up = reader.take_all("small")
    reader.take(";")
    return Symbol(name, down, up)


def read_production(reader):
    name = reader.take("small")
    left = reader.take("great")
    holds_number = reader.skips("#")
    reader.take(":")
    children = reader.take_all("great")
    reader.take("{")
    rules = []
    while not reader.skips("}"):
        rules.append(read_rule(reader))
    return Production(name, left, holds_number, children, rules)


def read_rule(reader):
    target = None
    if not reader.skips("?"):
        target = read_target(reader)
        reader.take("=")
    expression = read_expression(reader)
    reader.take(";")
    return Rule(target, expression)


def read_target(reader):
    place = 0
    if reader.sees("number"):
        place = reader.take("number")
        reader.take(".")
    return (place, reader.take("small"))
