"""Point 1: the call grammar."""

import unittest

from tests.helper import EXAMPLE, SMALL, ask, begin, cut, deliver, grammar, home, last, tree, wire, work
from treeworkers.tokens import split_tokens

SIGNS = {"mod": "%"}


def token_texts(text):
    texts = []
    for kind, value in split_tokens(list(text.encode()))[:-1]:
        texts.append(str(value) if kind in ("great", "small", "number") else SIGNS.get(kind, kind))
    return texts


class Held(unittest.TestCase):
    def check(self, text, symbols, productions):
        self.assertEqual(last(grammar(text)), [0, symbols, productions], text)

    def refuse(self, text):
        self.assertEqual(last(grammar(text)), [-2], text)

    def test_the_examples_of_the_document(self):
        self.check(EXAMPLE, 2, 3)
        self.check(SMALL, 2, 2)

    def test_the_least_grammar(self):
        self.check("S>;p S:{}", 1, 1)

    def test_no_bytes_and_blanks_alone(self):
        self.refuse("")
        self.refuse(" ")
        self.refuse("\n \n")

    def test_symbols_and_productions_in_any_order(self):
        self.check("p S: T { v = 1.v; } T > v; q T: { v = 1; } S > v;", 2, 2)
        self.check("S > v; p S: T { v = 1.v; } q T: { v = 1; } T > v;", 2, 2)

    def test_what_stands_behind_the_first_equals_sign_is_an_expression(self):
        self.check("S > v; p S: { v = v = 1; ? v = 1; }", 1, 1)

    def test_each_token_of_the_example_matters(self):
        texts = token_texts(EXAMPLE)
        self.check(" ".join(texts), 2, 3)
        for spot in range(len(texts)):
            self.refuse(" ".join(texts[:spot] + texts[spot + 1:]))

    def test_tokens_too_many(self):
        for extra in (";", ":", "{", "}", "(", ")", "[", "]", ",", ".", "=", ">", "/", "%", "|", "?", "then", "S", "7"):
            texts = token_texts(SMALL)
            for spot in range(len(texts) + 1):
                changed = " ".join(texts[:spot] + [extra] + texts[spot:])
                # A symbol or a condition cannot come about by one token more; a child can, without equations for it.
                self.refuse(changed)

    def test_texts_that_cannot_be_read(self):
        for text in ("S", "S >", "S > v", "> v;", "S v;", "S > V;", "S > v, w; p S: { v = 1; w = 1; }", "s > ; p S: {}",
                     "S > ; p S: {", "S > ; p S: }", "S > ; p S {}", "S > ; p: {}", "S > ; p s: {}", "S > ; P S: {}",
                     "S > ; p S: {};", "S > ; p S # #: {}", "S > ; p # S: {}", "S > ; p S: # {}", "S > ; p S: s {}",
                     "S > ; p S: { ? }", "S > ; p S: { ? 1 }", "S > ; p S: { ?; }", "S > ; p S: { ; }",
                     "S > v; p S: { v = 1 }", "S > v; p S: { v 1; }", "S > v; p S: { v = ; }", "S > v; p S: { = 1; }",
                     "S > v; p S: { v = 1;; }", "S > v; p S: { 0 v = 1; }", "S > v; p S: { .v = 1; }",
                     "S > v; p S: { 0. = 1; }", "S > v; p S: { -0.v = 1; }", "S > v; p S: { v < 1; }",
                     "S > v; p S: { v = v = v = 1; }", "S > v; p S: { ? v = 1 }", "S > v; p S: { V = 1; }",
                     "S > > v; p S: { v = 1; }", "S > v > w; p S: { v = 1; w = 1; }", "S > if; p S: { }",
                     "S > ; p S: {} 1", "1 S > ; p S: {}", "S > ; p S: {} q", "S > ; if S: {}"):
            self.refuse(text)


class Counts(unittest.TestCase):
    def check_limit(self, make, most):
        for count in (most - 1, most):
            self.assertEqual(last(grammar(make(count)))[0], 0, count)
        self.assertEqual(last(grammar(make(most + 1))), [-2])

    def test_symbols(self):
        def make(count):
            return " ".join(["S%d > ; p%d S%d: { }" % (number, number, number) for number in range(count)])
        self.check_limit(make, 12)
        for count in range(1, 13):
            self.assertEqual(last(grammar(make(count))), [0, count, count])

    def test_attributes(self):
        names = ["a", "b", "c", "d", "e"]

        def make_up(count):
            return "S > %s; p S: { %s }" % (" ".join(names[:count]), "".join([n + " = 1;" for n in names[:count]]))

        def make_down(count):
            return "S %s > ; p S: { }" % " ".join(names[:count])

        def make_both(count):
            return "S a b > %s; p S: { %s }" % (" ".join(names[2:count]), "".join([n + "= 1;" for n in names[2:count]]))

        for make in (make_up, make_down, make_both):
            self.check_limit(make, 4)
        self.assertEqual(last(grammar(make_up(0))), [0, 1, 1])

    def test_productions(self):
        def make(count):
            return "S > ; " + " ".join(["p%d S: { }" % number for number in range(count)])
        self.check_limit(make, 24)
        self.assertEqual(last(grammar(make(24))), [0, 1, 24])

    def test_no_production(self):
        self.assertEqual(last(grammar("S > ;")), [-2])

    def test_children(self):
        def make(count):
            return "S > ; q S: { } p S: " + "S " * count + "{ }"
        self.check_limit(make, 3)
        self.assertEqual(last(grammar(make(0))), [0, 1, 2])

    def test_rules(self):
        def conditions(count):
            return "S > ; p S: {" + "? 1;" * count + "}"

        def mixed(count):
            return "S > v w; p S: { v = 1;" + "? 1;" * (count - 2) + "w = 2; }"

        self.check_limit(conditions, 24)
        self.check_limit(mixed, 24)

    def test_rules_are_counted_in_each_production_alone(self):
        text = "S > ; p S: {" + "? 1;" * 24 + "} q S: {" + "? 1;" * 24 + "}"
        self.assertEqual(last(grammar(text)), [0, 1, 2])


class Names(unittest.TestCase):
    def refuse(self, text):
        self.assertEqual(last(grammar(text)), [-2], text)

    def test_symbols_twice(self):
        self.refuse("S > ; S > ; p S: { }")
        self.refuse("S > ; T > ; S > v; p S: { } q T: { }")

    def test_attributes_twice(self):
        self.refuse("S v v > ; p S: { }")
        self.refuse("S > v v; p S: { v = 1; }")
        self.refuse("S > v v; p S: { v = 1; v = 1; }")
        self.refuse("S v > v; p S: { v = 1; }")
        self.refuse("S v a > b v; p S: { b = 1; v = 1; }")

    def test_the_same_attributes_at_different_symbols(self):
        self.assertEqual(last(grammar("S v > w; T w > v; p S: { w = 1; } q T: { v = 1; }")), [0, 2, 2])

    def test_productions_twice(self):
        self.refuse("S > ; p S: { } p S: { }")
        self.refuse("S > ; T > ; p S: { } q S: { } p T: { }")

    def test_names_of_different_things_may_be_the_same(self):
        self.assertEqual(last(grammar("S s > v; v S: { v = s; } s S: { v = s; }")), [0, 1, 2])

    def test_undeclared_symbols(self):
        self.refuse("S > ; p S: { } q T: { }")
        self.refuse("S > ; p S: { } q S: T { }")
        self.refuse("S > ; p S: { } q S: S S T { }")
        self.refuse("p S: { }")


class Equations(unittest.TestCase):
    def check(self, rules, holds):
        text = "S d > v; T a b > w; leaf T: { w = 1; } p S: T T { " + rules + " }"
        self.assertEqual(last(grammar(text)), [0, 2, 2] if holds else [-2], rules)

    def test_each_to_be_defined_once(self):
        whole = ["v = 1;", "1.a = 1;", "1.b = 1;", "2.a = 1;", "2.b = 1;"]
        self.check("".join(whole), True)
        self.check("".join(reversed(whole)), True)
        self.check("? 1;" + "? 1;".join(whole), True)
        for spot, rule in enumerate(whole):
            self.check("".join(whole[:spot] + whole[spot + 1:]), False)
            self.check("".join(whole + [rule]), False)
            self.check("".join(whole[:spot] + whole[spot + 1:] + ["?" + rule]), False)
            self.check("".join([rule] + whole[:spot] + ["0" + rule] + whole[spot + 1:]), False)

    def test_twice_with_another_missing(self):
        self.check("v = 1; v = 1; 1.b = 1; 2.a = 1; 2.b = 1;", False)
        self.check("v = 1; 1.a = 1; 1.a = 1; 2.a = 1; 2.b = 1;", False)

    def test_place_nought_in_a_target(self):
        rest = "1.a = 1; 1.b = 1; 2.a = 1; 2.b = 1;"
        self.check("0.v = 1;" + rest, True)
        self.check("v = 1; 0.v = 1;" + rest, False)
        self.check("00.v = 1; 01.a = 1; 1.b = 1; 002.a = 1; 2.b = 1;", True)

    def test_targets_that_are_not_to_be_defined(self):
        whole = "v = 1; 1.a = 1; 1.b = 1; 2.a = 1; 2.b = 1;"
        for target in ("d", "0.d", "1.w", "2.w", "3.a", "x", "1.x", "1.v", "0.a", "a", "999999999999999999.a"):
            self.check(whole + target + " = 1;", False)

    def test_swapped_places(self):
        self.check("v = 1; 1.a = 1; 1.b = 1; 2.a = 1; 3.b = 1;", False)
        self.check("1.v = 1; 1.a = 1; 1.b = 1; 2.a = 1; 2.b = 1;", False)


class ExpressionsInRules(unittest.TestCase):
    def check(self, expression, holds):
        for rules in ("v = %s; 1.a = 1;", "v = 1; 1.a = %s;", "v = 1; 1.a = 1; ? %s;"):
            text = "S d > v; T a > w; leaf T: { w = 1; } p S: T { " + rules % expression + " }"
            self.assertEqual(last(grammar(text)), [0, 2, 2] if holds else [-2], text)

    def test_occurrences_at_the_places(self):
        for expression in ("d", "v", "0.d", "0.v", "1.a", "1.w", "d + v + 1.a + 1.w", "[if 1 then d else 1.w]"):
            self.check(expression, True)

    def test_occurrences_that_are_not_there(self):
        for expression in ("a", "w", "0.a", "0.w", "1.d", "1.v", "2.a", "2.d", "x", "1.x", "1 + x", "[1, 1.d]",
                           "if 1 then 1 else 2.w", "-x", "max(1, x)", "0 & x"):
            self.check(expression, False)

    def test_own_number_where_none_is_held(self):
        self.check("#", False)
        self.check("1 + #", False)
        self.check("[#]", False)
        self.check("if 0 then # else 1", False)

    def test_own_number_where_one_is_held(self):
        for rule in ("v = #; 1.a = 1;", "v = 1; 1.a = #;", "v = 1; 1.a = 1; ? #;"):
            text = "S d > v; T a > w; leaf T: { w = 1; } p S #: T { " + rule + " }"
            self.assertEqual(last(grammar(text)), [0, 2, 2], text)
        text = "S > v; p S #: { v = #; } q S: { v = #; }"
        self.assertEqual(last(grammar(text)), [-2])


class SymbolsHaveTrees(unittest.TestCase):
    def check(self, text, holds):
        self.assertEqual(last(grammar(text))[0], 0 if holds else -2, text)

    def test_symbols_without(self):
        self.check("S > ; T > ; p S: { }", False)
        self.check("S > ; p S: S { }", False)
        self.check("S > ; p S: S S { } q S: S { }", False)
        self.check("S > ; T > ; p S: T { } q T: S { }", False)
        self.check("S > ; T > ; p S: { } q T: T S { }", False)
        self.check("S > ; T > ; p S: { } q T: S T { }", False)
        self.check("S > ; T > ; U > ; p S: { } q T: S U { } r U: T S { }", False)

    def test_symbols_with(self):
        self.check("S > ; p S: S { } q S: { }", True)
        self.check("S > ; T > ; p S: T { } q T: S { } r T: { }", True)
        self.check("A > ; B > ; C > ; D > ; a A: B { } b B: C { } c C: D { } d D: { }", True)
        self.check("A > ; B > ; C > ; D > ; d D: { } c C: D { } b B: C { } a A: B { }", True)
        self.check("A > ; B > ; C > ; D > ; a A: B { } b B: C { } c C: D { } d D: A { }", False)

    def test_trees_larger_than_the_tree_call_takes(self):
        text = "".join(["S%d > ; p%d S%d: S%d S%d S%d { }" % (n, n, n, n + 1, n + 1, n + 1) for n in range(11)])
        self.check(text + "S11 > ; p11 S11: { }", True)


class Lengths(unittest.TestCase):
    def test_three_thousand_bytes_and_one_more(self):
        self.assertEqual(last(grammar(SMALL.ljust(3000))), [0, 2, 2])
        self.assertEqual(last(grammar(SMALL.ljust(3001))), [-1])
        self.assertEqual(last(grammar(SMALL.ljust(4000))), [-1])

    def test_too_long_comes_first(self):
        self.assertEqual(last(grammar("x" * 3000)), [-2])
        self.assertEqual(last(grammar("x" * 3001)), [-1])
        self.assertEqual(last(grammar([0] * 3000)), [-2])
        self.assertEqual(last(grammar([255] * 4000)), [-1])

    def test_with_a_grammar_held(self):
        found = ask(grammar(SMALL), grammar(SMALL.ljust(3001)), tree("top(lit 3)"))
        self.assertEqual(found, [[0, 2, 2], [-1], [0, 2, 3]])


class NewAndRefusedGrammars(unittest.TestCase):
    def test_a_new_grammar_takes_the_place_of_the_old_one(self):
        found = ask(grammar(SMALL), grammar("S > v; one S: { v = 1; }"), tree("top(lit 3)"), tree("one"))
        self.assertEqual(found[2:], [[-4], [0, 1, 1]])

    def test_a_new_grammar_holds_no_tree(self):
        found = ask(grammar(SMALL), tree("top(lit 3)"), grammar(SMALL), cut(1), begin(), home(0, 0))
        self.assertEqual(found[2:], [[0, 2, 2], [-5], [-5], [-6]])

    def test_a_new_grammar_while_the_work_has_begun(self):
        found = ask(grammar(SMALL), tree("top(lit 3)"), cut(1), begin(), work(0), grammar(SMALL),
                    wire(), home(0, 0), work(0), deliver(0), cut(1), begin(),
                    tree("top(lit 3)"), begin(), wire())
        self.assertEqual(found[5:], [[0, 2, 2], [-6], [-6], [-6], [-6], [-5], [-5], [0, 2, 3], [0, 0, 0], [0]])

    def test_a_refused_grammar_changes_nothing(self):
        for text, refusal in (("", -2), ("S > ;", -2), (" " * 3001, -1)):
            found = ask(grammar(SMALL), tree("top(lit 3)"), cut(1), grammar(text), begin(), work(0), grammar(text),
                        wire(), deliver(0), grammar(text), work(1), wire(), tree("lit 1"))
            self.assertEqual(found[2:], [
                [0, 1], [refusal], [0, 0, 1], [0, 1, 1], [refusal], [0, 0, 1, 1, 0, 0, 4], [0, 1, 1, 0, 1],
                [refusal], [0, 1, 1], [0, 1, 0, 1, 1, 0, 7], [0, 1, 2]])

    def test_a_refused_first_grammar(self):
        self.assertEqual(ask(grammar("S > ;"), tree("p"), begin()), [[-2], [-3], [-5]])


if __name__ == "__main__":
    unittest.main()
