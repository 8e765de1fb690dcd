"""Looks whether what was read by the rules of a grammar is one."""

from treeworkers.errors import need

MOST_SYMBOLS = 12
MOST_ATTRIBUTES = 4
MOST_PRODUCTIONS = 24
MOST_CHILDREN = 3
MOST_RULES = 24


def check_grammar(grammar):
    check_symbols(grammar.symbols)
    check_productions(grammar)
    for production in grammar.productions:
        check_targets(grammar, production)
        for rule in production.rules:
            check_expression(grammar, production, rule.expression)
    check_trees(grammar)


def all_different(names):
    return len(set(names)) == len(names)


def check_symbols(symbols):
    need(1 <= len(symbols) <= MOST_SYMBOLS)
    need(all_different([symbol.name for symbol in symbols]))
    for symbol in symbols:
        need(len(symbol.attributes) <= MOST_ATTRIBUTES)
        need(all_different(symbol.attributes))


def check_productions(grammar):
    need(len(grammar.productions) <= MOST_PRODUCTIONS)
    need(all_different([production.name for production in grammar.productions]))
    for production in grammar.productions:
        need(len(production.children) <= MOST_CHILDREN)
        need(len(production.rules) <= MOST_RULES)
        for name in [production.left] + production.children:
            need(grammar.symbol_called(name) is not None)


def to_be_defined(grammar, production):
    wanted = [(0, name) for name in grammar.symbol_called(production.left).up]
    for place, child in enumerate(production.children, start=1):
        for name in grammar.symbol_called(child).down:
            wanted.append((place, name))
    return wanted


def check_targets(grammar, production):
    targets = [rule.target for rule in production.rules if rule.target is not None]
    need(sorted(targets) == sorted(to_be_defined(grammar, production)))


def check_expression(grammar, production, expression):
    need(production.holds_number or not expression.uses_own)
    for occurrence in expression.occurrences:
        place = occurrence[0]
        need(place <= len(production.children))
        symbol = grammar.symbol_called(production.symbol_at(place))
        need(occurrence[1] in symbol.attributes)


def check_trees(grammar):
    having = {}
    grew = True
    while grew:
        before = len(having)
        for production in grammar.productions:
            if all([child in having for child in production.children]):
                having[production.left] = True
        grew = len(having) > before
    need(len(having) == len(grammar.symbols))
