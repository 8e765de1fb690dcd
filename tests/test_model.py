"""Calls by the hundred, compared with a plain model that follows the document's words one by one."""

import random
import re
import unittest

from tests.helper import (
    begin, cut, deliver, double, forget, grammar, home, knows, lose, parted, resend, status, tree, wire, work, work_all,
)
from treeworkers.desk import answers

TOKEN = re.compile(rb"([A-Za-z][A-Za-z0-9]*)|([0-9]+)|([;:{}()\[\],.=<>+\-*/%&|!?#])|([ \n]+)")
COUNTS = {"len": 1, "at": 2, "cat": 2, "look": 3, "drop": 2, "has": 2, "max": 2, "min": 2}
TOP = 10 ** 18 - 1


class Wrong(Exception):
    pass


class Faulty(Exception):
    pass


def sure(holds):
    if not holds:
        raise Wrong()


def tokens_of(text):
    text, spot, found = bytes(text), 0, []
    while spot < len(text):
        match = TOKEN.match(text, spot)
        sure(match)
        name, digits, sign = [part.decode() if part else "" for part in match.group(1, 2, 3)]
        sure(len(name) <= 12 and len(digits) <= 18)
        if name in ("if", "then", "else"):
            found.append((name, None))
        elif name:
            found.append(("great" if name[0].isupper() else "small", name))
        elif digits:
            found.append(("number", int(digits)))
        elif sign:
            found.append((sign, None))
        spot = match.end()
    return found + [("end", None)]


class Tokens:
    """Tokens, and the rules by which expressions are read off them."""

    def __init__(self, text):
        self.row = tokens_of(text)
        self.parts = self.levels = 0

    def sees(self, *kinds):
        return self.row[0][0] in kinds

    def take(self, *kinds):
        sure(self.sees(*kinds))
        return self.row.pop(0)

    def name(self, kind):
        return self.take(kind)[1]

    def many(self, kind):
        found = []
        while self.sees(kind):
            found.append(self.name(kind))
        return found

    def part(self, *part):
        self.parts += 1
        sure(self.parts <= 60)
        return part

    def level(self, change):
        self.levels += change
        sure(self.levels <= 30)

    def rule_expression(self):
        self.parts = self.levels = 0
        return self.expression()

    def expression(self):
        if not self.sees("if"):
            return self.choice()
        self.take("if")
        self.level(1)
        first = self.expression()
        self.take("then")
        second = self.expression()
        self.take("else")
        third = self.expression()
        self.level(-1)
        return self.part("if", first, second, third)

    def repeated(self, below, *signs):
        left = below()
        while self.sees(*signs):
            sign = self.take(*signs)[0]
            left = self.part(sign, left, below())
        return left

    def choice(self):
        return self.repeated(self.both, "|")

    def both(self):
        return self.repeated(self.comparison, "&")

    def comparison(self):
        left = self.sum()
        if self.sees("=", "<"):
            sign = self.take("=", "<")[0]
            left = self.part(sign, left, self.sum())
        return left

    def sum(self):
        return self.repeated(self.product, "+", "-")

    def product(self):
        return self.repeated(self.signed, "*", "/", "%")

    def signed(self):
        if not self.sees("-", "!"):
            return self.atom()
        sign = self.take("-", "!")[0]
        self.level(1)
        argument = self.signed()
        self.level(-1)
        return self.part(sign, argument)

    def atom(self):
        if self.sees("number"):
            number = self.name("number")
            if self.sees("."):
                self.take(".")
                return self.part("occurrence", number, self.name("small"))
            return self.part("number", number)
        if self.sees("small"):
            name = self.name("small")
            if not self.sees("("):
                return self.part("occurrence", 0, name)
            arguments = self.bracketed("(", ")")
            sure(COUNTS.get(name) == len(arguments))
            return self.part(name, *arguments)
        if self.sees("#"):
            self.take("#")
            return self.part("#")
        if self.sees("["):
            return self.part("[]", *self.bracketed("[", "]"))
        self.take("(")
        self.level(1)
        inside = self.expression()
        self.take(")")
        self.level(-1)
        return inside

    def bracketed(self, opening, closing):
        self.take(opening)
        self.level(1)
        found = []
        if not self.sees(closing):
            found.append(self.expression())
            while self.sees(","):
                self.take(",")
                found.append(self.expression())
        self.take(closing)
        self.level(-1)
        return found

    def tree(self, level):
        sure(level <= 24)
        name, number, children = self.name("small"), None, []
        if self.sees("-", "number"):
            minus = self.sees("-") and self.take("-")
            number = self.name("number")
            number = -number if minus else number
        if self.sees("("):
            self.take("(")
            children.append(self.tree(level + 1))
            while self.sees(","):
                self.take(",")
                children.append(self.tree(level + 1))
            self.take(")")
        return (name, number, children)


def all_parts(part):
    found = [part]
    for argument in part[1:]:
        if isinstance(argument, tuple):
            found += all_parts(argument)
    return found


class ModelGrammar:
    def __init__(self, text):
        tokens = Tokens(text)
        self.symbols, self.productions = {}, {}
        while not tokens.sees("end"):
            if tokens.sees("great"):
                self.read_symbol(tokens)
            else:
                self.read_production(tokens)
        sure(1 <= len(self.symbols) <= 12 and len(self.productions) <= 24)
        for production in self.productions.values():
            self.check(*production)
        having = set()
        for turn in self.symbols:
            having |= {left for left, holds, children, rules in self.productions.values() if set(children) <= having}
        sure(having == set(self.symbols))

    def read_symbol(self, tokens):
        name = tokens.name("great")
        down = tokens.many("small")
        tokens.take(">")
        up = tokens.many("small")
        tokens.take(";")
        sure(name not in self.symbols and len(down + up) <= 4 and len(set(down + up)) == len(down + up))
        self.symbols[name] = (down, up)

    def read_production(self, tokens):
        name, left = tokens.name("small"), tokens.name("great")
        holds = tokens.sees("#") and bool(tokens.take("#"))
        tokens.take(":")
        children, rules = tokens.many("great"), []
        tokens.take("{")
        while not tokens.sees("}"):
            target = None
            if tokens.sees("?"):
                tokens.take("?")
            else:
                place = 0
                if tokens.sees("number"):
                    place = tokens.name("number")
                    tokens.take(".")
                target = (place, tokens.name("small"))
                tokens.take("=")
            rules.append((target, tokens.rule_expression()))
            tokens.take(";")
        tokens.take("}")
        sure(name not in self.productions and len(children) <= 3 and len(rules) <= 24)
        self.productions[name] = (left, holds, children, rules)

    def check(self, left, holds, children, rules):
        places = [left] + children
        sure(set(places) <= set(self.symbols))
        wanted = []
        for place, symbol in enumerate(places):
            wanted += [(place, name) for name in self.symbols[symbol][1 if place == 0 else 0]]
        sure(sorted(wanted) == sorted(target for target, part in rules if target))
        for target, part in rules:
            for one in all_parts(part):
                if one[0] == "occurrence":
                    sure(one[1] < len(places) and one[2] in sum(self.symbols[places[one[1]]], []))
                sure(one[0] != "#" or holds)


def parts(value):
    return 1 if isinstance(value, int) else 1 + sum(parts(one) for one in value)


def depth(value):
    return 0 if isinstance(value, int) else 1 + max([depth(one) for one in value] + [0])


def fault(number, holds=True):
    if holds:
        raise Faulty(number)


def ranged(number):
    fault(2, not -TOP <= number <= TOP)
    return number


def sized(value):
    fault(5, parts(value) > 400 or depth(value) > 20)
    return value


def truth(value):
    fault(1, isinstance(value, list))
    return int(value != 0)


def divided(number, by, rest):
    fault(3, by == 0)
    return number % by if rest else number // by


def placed(value, number, most):
    fault(4, not 0 <= number <= most)
    return value


def found_pair(row, key, other):
    for one in row:
        if isinstance(one, list) and len(one) == 2 and one[0] == key:
            return one[1]
    return other


# Of each operation the kinds of its arguments (n: a number, l: a list, v: any value), and what it makes of them.
OPERATIONS = {
    "+": ("nn", lambda a, b: ranged(a + b)), "*": ("nn", lambda a, b: ranged(a * b)),
    "/": ("nn", lambda a, b: divided(a, b, False)), "%": ("nn", lambda a, b: divided(a, b, True)),
    "!": ("n", lambda a: int(a == 0)), "<": ("nn", lambda a, b: int(a < b)), "max": ("nn", max), "min": ("nn", min),
    "=": ("vv", lambda a, b: int(a == b)), "has": ("lv", lambda a, b: int(b in a)),
    "cat": ("ll", lambda a, b: sized(a + b)), "len": ("l", len),
    "at": ("ln", lambda a, b: placed(a, b, len(a) - 1)[b]), "drop": ("ln", lambda a, b: placed(a, b, len(a))[b:]),
    "look": ("lvv", found_pair),
}
KINDS = {"n": int, "l": list, "v": (int, list)}


def value_of(part, own, meaning):
    def inner(number):
        return value_of(part[number], own, meaning)
    kind = part[0]
    if kind == "number":
        return part[1]
    if kind == "#":
        return own
    if kind == "occurrence":
        outcome = meaning(part[1], part[2])
        fault(outcome[1], outcome[0] == "fault")
        return outcome[1]
    if kind == "if":
        return inner(2) if truth(inner(1)) else inner(3)
    if kind == "&":
        return truth(inner(1)) and truth(inner(2))
    if kind == "|":
        return truth(inner(1)) or truth(inner(2))
    values = [inner(number) for number in range(1, len(part))]
    if kind == "[]":
        return sized(values)
    if kind == "-":
        kinds, make = "n" * len(values), lambda a, b=None: ranged(-a if b is None else a - b)
    else:
        kinds, make = OPERATIONS[kind]
    fault(1, not all(isinstance(value, KINDS[kind]) for value, kind in zip(values, kinds)))
    return make(*values)


def flat(outcome):
    if outcome[0] == "fault":
        return [2, outcome[1]]
    if isinstance(outcome[1], int):
        return [0, outcome[1]]
    return [1, len(outcome[1])] + [number for one in outcome[1] for number in flat(("value", one))]


class Model:
    def __init__(self):
        self.held = self.nodes = self.known = None

    def grammar(self, text):
        if len(text) > 3000:
            return [-1]
        try:
            self.held = ModelGrammar(text)
        except Wrong:
            return [-2]
        self.nodes = self.known = None
        return [0, len(self.held.symbols), len(self.held.productions)]

    def tree(self, text):
        if self.held is None:
            return [-3]
        if len(text) > 3000:
            return [-1]
        found = []
        try:
            tokens = Tokens(text)
            whole = tokens.tree(1)
            tokens.take("end")
            self.number(whole, None, 0, found)
            sure(len(found) <= 60)
        except Wrong:
            return [-4]
        self.nodes, self.known, self.cuts = found, None, [0]
        self.instances = [(node, name) for node in range(len(found)) for name in self.names(node)]
        return [0, len(found), len(self.instances)]

    def number(self, whole, parent, place, found):
        name, number, children = whole
        sure(name in self.held.productions)
        left, holds, wanted, rules = self.held.productions[name]
        sure((number is not None) == holds and len(children) == len(wanted))
        me = len(found)
        found.append({"symbol": left, "own": number, "parent": parent, "place": place, "children": [], "rules": rules})
        for spot, child in enumerate(children):
            found[me]["children"].append(len(found))
            self.number(child, me, spot + 1, found)
            sure(found[found[me]["children"][-1]]["symbol"] == wanted[spot])

    def names(self, node):
        return sum(self.held.symbols[self.nodes[node]["symbol"]], [])

    def equation(self, instance):
        """The equation's node and expression, or None."""
        node, name = instance
        place, at = 0, node
        if name in self.held.symbols[self.nodes[node]["symbol"]][0]:
            place, at = self.nodes[node]["place"], self.nodes[node]["parent"]
        if at is None:
            return None
        return at, dict(self.nodes[at]["rules"][::-1])[(place, name)]

    def named(self, instance):
        equation = self.equation(instance)
        if equation is None:
            return []
        return [self.meant(equation[0], one[1], one[2]) for one in all_parts(equation[1]) if one[0] == "occurrence"]

    def meant(self, node, place, name):
        return (([node] + self.nodes[node]["children"])[place], name)

    def owner(self, node):
        while node not in self.cuts:
            node = self.nodes[node]["parent"]
        return self.cuts.index(node)

    def home_of(self, instance):
        equation = self.equation(instance)
        return 0 if equation is None else self.owner(equation[0])

    def cut(self, node):
        if self.nodes is None:
            return [-5]
        if self.known is not None:
            return [-9]
        if not 0 <= node < len(self.nodes):
            return [-10]
        if node in self.cuts:
            return [-8]
        if len(self.cuts) >= 8:
            return [-11]
        self.cuts.append(node)
        return [0, len(self.cuts) - 1]

    def begin(self):
        if self.nodes is None:
            return [-5]
        if self.known is not None:
            return [-9]
        self.known, self.messages, self.put = [{} for worker in self.cuts], [], 0
        self.homes = {instance: self.home_of(instance) for instance in self.instances}
        self.needed = {instance: self.named(instance) for instance in self.instances}
        self.receivers = {}
        for instance, needed in self.needed.items():
            for other in needed:
                if self.homes[other] != self.homes[instance]:
                    assert self.receivers.setdefault(other, self.homes[instance]) == self.homes[instance]
        return [0] + [self.owner(node) for node in range(len(self.nodes))]

    def home(self, node, attribute):
        if self.known is None:
            return [-6]
        if not 0 <= node < len(self.nodes):
            return [-10]
        if not 0 <= attribute < len(self.names(node)):
            return [-12]
        instance = (node, self.names(node)[attribute])
        return [0, self.homes[instance]] + [self.receivers[instance] for one in [1] if instance in self.receivers]

    def worth(self, instance, worker):
        equation = self.equation(instance)
        if equation is None:
            return ("value", 0)
        try:
            return ("value", value_of(equation[1], self.nodes[equation[0]]["own"],
                                      lambda place, name: self.known[worker][self.meant(equation[0], place, name)]))
        except Faulty as found:
            return ("fault", found.args[0])

    def first_ready(self, worker):
        known = self.known[worker]
        for instance in self.instances:
            if self.homes[instance] == worker and instance not in known:
                if all(other in known for other in self.needed[instance]):
                    return instance
        return None

    def work(self, worker, most):
        if self.known is None:
            return [-6]
        if not 0 <= worker < len(self.cuts):
            return [-13]
        if not 0 <= most <= 1000:
            return [-14]
        if len(self.messages) > 500:
            return [-15]
        before, count = self.put, self.work_out(worker, most)
        return [0, count, self.put - before]

    def work_out(self, worker, most):
        count = 0
        while count != most and self.first_ready(worker):
            instance = self.first_ready(worker)
            self.known[worker][instance] = self.worth(instance, worker)
            count += 1
            self.send(worker, instance)
        return count

    def send(self, worker, instance):
        if instance in self.receivers:
            self.put_there((worker, self.receivers[instance], instance, self.known[worker][instance]))

    def put_there(self, message):
        self.messages = self.messages + [message]
        self.put += 1

    def two(self, instance):
        return [instance[0], self.names(instance[0]).index(instance[1])]

    def wire(self):
        if self.known is None:
            return [-6]
        told = [0]
        for sender, receiver, instance, outcome in self.messages:
            told += [sender, receiver] + self.two(instance) + flat(outcome)
        return told

    def deliver(self, message):
        if self.known is None:
            return [-6]
        if not 0 <= message < len(self.messages):
            return [-16]
        sender, receiver, instance, outcome = self.messages.pop(message)
        new = instance not in self.known[receiver]
        self.known[receiver].setdefault(instance, outcome)
        return [0, receiver] + self.two(instance) + [int(new)]

    def double(self, message):
        if self.known is None:
            return [-6]
        if not 0 <= message < len(self.messages):
            return [-16]
        if len(self.messages) > 500:
            return [-15]
        self.put_there(self.messages[message])
        return [0]

    def lose(self, message):
        if self.known is None:
            return [-6]
        if not 0 <= message < len(self.messages):
            return [-16]
        self.messages = self.messages[:message] + self.messages[message + 1:]
        return [0]

    def forget(self, worker):
        if self.known is None:
            return [-6]
        if not 0 <= worker < len(self.cuts):
            return [-13]
        before, self.known[worker] = self.known[worker], {}
        return [0, len(before)]

    def resend(self, worker):
        if self.known is None:
            return [-6]
        if not 0 <= worker < len(self.cuts):
            return [-13]
        if len(self.messages) > 500:
            return [-15]
        before = self.put
        for instance in self.instances:
            if self.homes[instance] == worker and instance in self.known[worker]:
                self.send(worker, instance)
        return [0, self.put - before]

    def all(self):
        if self.known is None:
            return [-6]
        turns = delivered = 0
        while True:
            count = sum(self.work_out(worker, None) for worker in range(len(self.cuts)))
            if count == 0 and self.messages == []:
                return [0, turns, delivered]
            turns += 1
            while self.messages:
                self.deliver(0)
                delivered += 1

    def knows(self, worker, node, attribute):
        if self.known is None:
            return [-6]
        if not 0 <= worker < len(self.cuts):
            return [-13]
        if not 0 <= node < len(self.nodes):
            return [-10]
        if not 0 <= attribute < len(self.names(node)):
            return [-12]
        instance = (node, self.names(node)[attribute])
        return [0] + flat(self.known[worker][instance]) if instance in self.known[worker] else [1]

    def status(self):
        if self.known is None:
            return [-6]
        lacking = [instance for instance in self.instances if instance not in self.known[self.homes[instance]]]
        ready = [instance for instance in lacking
                 if all(other in self.known[self.homes[instance]] for other in self.needed[instance])]
        return [0, len(lacking), len(ready), len(self.messages), self.put]


ATTRIBUTES = ["v", "d", "len", "at", "w"]
# How often at most a call is drawn, beside eight times work.
WORKING = {"deliver": 9, "double": 6, "resend": 4, "lose": 3, "knows": 4, "status": 2, "wire": 2, "forget": 1, "all": 1,
           "home": 1, "begin": 1}


class Maker:
    """Makes grammars, trees and calls out of a seed; lively ones are such that many messages are sent."""

    def __init__(self, seed, lively=False):
        self.dice = random.Random(seed)
        self.lively = lively
        # Some seeds call some calls seldom or never, so that much of the others can come together.
        self.names = ["work"] * 8
        for name, most in WORKING.items():
            self.names += [name] * self.dice.randint(0, most)

    def expression(self, atoms, budget):
        dice = self.dice
        if budget <= 1 or dice.random() < 0.25:
            return dice.choice(atoms * (3 if self.lively else 1)
                               + ["0", "1", "2", "-3", "[]", "[1, 2]", "999999999999999999"])
        shape = dice.choice(["%s + %s", "%s - %s", "%s*%s", "%s / %s", "%s%%%s", "%s = %s", "%s<%s", "%s&%s", "%s | %s",
                             "-%s", "!%s", "(%s)", "[%s, %s, %s]", "[%s]", "[%s, %s]", "[%s, %s]", "cat(%s, %s)",
                             "cat([%s], [%s, %s])", "len(%s)", "at(%s, %s)", "drop(%s, %s)", "has(%s, %s)",
                             "look(%s, %s, %s)", "max(%s, %s)", "min(%s,%s)", "(if %s then %s else %s)",
                             "if %s then %s else %s"])
        count = shape.replace("%%", "").count("%s")
        inner = [self.expression(atoms, (budget - 1) // count) for number in range(count)]
        frames = ["(%s)"] if self.lively else ["%s", "(%s)", "(%s)"]
        return shape % tuple(dice.choice(frames) % one for one in inner)

    def grammar(self):
        dice = self.dice
        names = ["S", "E", "F", "Gg1"][:dice.randint(1, 4)]
        self.symbols, self.productions = {}, {}
        for name in names:
            found = dice.sample(ATTRIBUTES, dice.randint(2 if self.lively else 0, 4))
            split = dice.randint(1, len(found) - 1) if self.lively else dice.randint(0, len(found))
            self.symbols[name] = (found[:split], found[split:])
        lines = ["%s %s > %s;" % (name, " ".join(down), " ".join(up)) for name, (down, up) in self.symbols.items()]
        for number in range(dice.randint(len(names) + 1, len(names) + 7)):
            left = names[number] if number < len(names) else dice.choice(names)
            count = 0 if number < len(names) else dice.choice([1, 2, 3] if self.lively else [0, 1, 2, 2, 3])
            children = [dice.choice(names) for child in range(count)]
            lines.append(self.production("p%d" % number, left, children))
        # The first production of each symbol has no children, so each symbol has a tree.
        dice.shuffle(lines)
        return "\n".join(lines)

    def production(self, name, left, children):
        dice = self.dice
        holds = dice.random() < 0.4
        self.productions[name] = (left, holds, children)
        places = [self.symbols[symbol] for symbol in [left] + children]
        targets = [(place, one) for place, (down, up) in enumerate(places) for one in (down if place else up)]
        orderly = self.lively and dice.random() < 0.9
        atoms = self.atoms(places, holds, None)
        rules = []
        for place, one in targets:
            fitting = self.atoms(places, holds, place) if orderly else atoms
            rules.append("%d.%s = %s;" % (place, one, self.expression(fitting, dice.choice([1, 3, 9, 20]))))
        rules += ["? %s;" % self.expression(atoms, 5) for count in range(dice.choice([0, 0, 1]))]
        dice.shuffle(rules)
        return "%s %s%s: %s { %s }" % (name, left, " #" * holds, " ".join(children), " ".join(rules))

    def atoms(self, places, holds, target):
        """What may stand in expressions; for a target's place only what makes no circle."""
        dice = self.dice
        found = ["#"] * holds + ["0." + one for one in places[0][0]]
        for place, (down, up) in enumerate(places):
            if place and (not target or place < target):
                found += ["%d.%s" % (place, one) for one in up + down]
        if target is None and dice.random() < 0.1:
            found += ["0." + one for one in places[0][1]]
        if not self.lively and dice.random() < 0.02:
            found += ["0.v", "1.d", "#"]
        return [one[2:] if one[:2] == "0." and dice.random() < 0.7 else one for one in found]

    def tree(self, symbol=None, levels=4):
        dice = self.dice
        symbol = symbol or dice.choice([one[0] for one in self.productions.values()])
        fitting = [name for name, one in self.productions.items() if one[0] == symbol]
        wanted = levels > 0 and dice.random() < 0.85
        name = dice.choice([name for name in fitting if bool(self.productions[name][2]) == wanted] or fitting[:1])
        text = name
        if self.productions[name][1]:
            text += dice.choice([" 0", " 7", " -2", "-1", " 12"])
        children = [self.tree(child, levels - 1) for child in self.productions[name][2]]
        return text + "(" + ", ".join(children) + ")" if children else text

    def spoiled(self, text, often):
        text = list(text.encode())
        while self.dice.random() < often and text:
            spot = self.dice.randrange(len(text))
            byte = self.dice.choice(list(b" \n;:{}()[],.=<>+-*/%&|!?#019abvdSE\t") + [0, 255])
            text[spot:spot + self.dice.randint(0, 2)] = [byte] * self.dice.randint(0, 1)
        return text

    def calls(self):
        dice = self.dice
        found = [("grammar", self.spoiled(self.grammar(), 0.1))]
        for count in range(2):
            text = self.tree()
            nodes = text.count("p")
            workers = dice.randint(1, min(9, nodes + 1))
            found.append(("tree", self.spoiled(text, 0.1)))
            found += [("cut", dice.randint(0, nodes - 1)) for number in range(workers - 1)]
            found += [("cut", dice.randint(-1, nodes)), ("begin",)]
            found += [self.working_call(nodes, workers) for number in range(dice.randint(5, 120))]
        return found

    def begun(self):
        """The calls up to begin, how many nodes there are, and how many workers."""
        text = self.grammar()
        whole = max([self.tree() for count in range(9)], key=lambda one: one.count("p") * (one.count("p") <= 40))
        nodes = whole.count("p")
        cuts = self.dice.sample(range(1, nodes), min(nodes - 1, self.dice.randint(1, 7)))
        calls = [("grammar", list(text.encode())), ("tree", list(whole.encode()))]
        return calls + [("cut", node) for node in cuts] + [("begin",)], nodes, len(cuts) + 1

    def lively_calls(self):
        calls, nodes, workers = self.begun()
        count = self.dice.randint(40, 380)
        if self.dice.random() < 0.2:
            # This may fill the wire.
            calls += [("all",)] + [("resend", worker) for worker in range(workers)] * (280 // workers)
            count = 90
        return calls + [self.working_call(nodes, workers) for number in range(count)]

    def working_call(self, nodes, workers):
        dice = self.dice
        worker, message = dice.randint(0, workers - 1), dice.choice([0, 1, 2, 3, dice.randint(4, 20)])
        instance = (dice.randint(0, nodes - 1), dice.randint(0, 3))
        wild = dice.random() < 0.05
        if wild:
            worker, message = dice.choice([-1, workers, 8, 10 ** 18]), dice.choice([-1, 9, -10 ** 18])
            instance = (dice.randint(-1, nodes), dice.randint(-1, 4))
        name = dice.choice(self.names)
        given = {"work": (worker, dice.choice([0, 1, 2, 3, 1000, 1000, 1000] + [1001, -1] * wild)), "home": instance,
                 "knows": (worker, *instance), "wire": (), "begin": (), "status": (), "all": (),
                 "deliver": (dice.choice([0, message]),), "double": (message,), "lose": (message,),
                 "forget": (worker,), "resend": (worker,)}
        return (name, *given[name])


WRITTEN = {"grammar": grammar, "tree": tree, "cut": cut, "begin": begin, "home": home, "work": work, "wire": wire,
           "deliver": deliver, "double": double, "lose": lose, "forget": forget, "resend": resend, "all": work_all,
           "knows": knows, "status": status}


class Compared(unittest.TestCase):
    def compare(self, calls):
        model = Model()
        row = [number for call in calls for number in WRITTEN[call[0]](*call[1:])]
        given = parted(answers(row))
        self.assertEqual(len(given), len(calls))
        for call, answer in zip(calls, given):
            self.assertEqual(answer, getattr(model, call[0])(*call[1:]), call)

    def test_by_the_hundred(self):
        for seed in range(300):
            with self.subTest(seed=seed):
                self.compare(Maker(seed).calls())

    def test_lively_ones_by_the_hundred(self):
        for seed in range(200):
            with self.subTest(seed=seed):
                self.compare(Maker(seed, lively=True).lively_calls())


if __name__ == "__main__":
    unittest.main()
