"""Point 2: the call tree."""

import unittest

from tests.helper import EXAMPLE, SMALL, ask, begin, cut, deliver, grammar, home, last, tree, wire, work

# Productions with 0 to 3 children, with and without numbers, of two symbols.
WIDE = """A > v; B d > ;
a A: { v = 1; } an A #: { v = #; } a1 A: B { v = 1; 1.d = 0; } a2 A: A B { v = 1.v; 2.d = 1; }
a3 A #: A B A { v = #; 2.d = 3.v; }
b B: { } bn B #: { } b1 B: A { } ab B #: B A { 1.d = d; }
"""


def answered(text, held=WIDE):
    return last(grammar(held), tree(text))


class Read(unittest.TestCase):
    def check(self, text, nodes, instances):
        self.assertEqual(answered(text), [0, nodes, instances], text)

    def refuse(self, text):
        self.assertEqual(answered(text), [-4], text)

    def test_the_examples_of_the_document(self):
        self.assertEqual(answered("top(add(lit 3, lit -4))", EXAMPLE), [0, 4, 7])
        self.assertEqual(answered("top(lit 3)", SMALL), [0, 2, 3])

    def test_trees_of_all_productions(self):
        self.check("a", 1, 1)
        self.check("an 5", 1, 1)
        self.check("a1(b)", 2, 2)
        self.check("a2(a, b)", 3, 3)
        self.check("a3 1(a, b, a)", 4, 4)
        self.check("a3 1(a2(a, bn 1), ab -2(b1(a), an 3), a1(b))", 10, 10)

    def test_symbols_without_attributes(self):
        self.assertEqual(last(grammar("S > ; p S: { } q S: S S { }"), tree("q(q(p,p),p)")), [0, 5, 0])

    def test_a_root_of_any_symbol(self):
        self.check("b", 1, 1)
        self.check("bn 0", 1, 1)
        self.check("ab 1(b, a)", 3, 3)
        self.assertEqual(answered("lit 3", EXAMPLE), [0, 1, 2])
        self.assertEqual(answered("add(lit 3, lit 4)", EXAMPLE), [0, 3, 6])

    def test_numbers(self):
        for number in ("0", "-0", "- 0", "7", "-7", "- 7", "007", "-007", "9" * 18, "-" + "9" * 18):
            self.check("an " + number, 1, 1)
        for number in ("+7", "--7", "7-", "- -7", "9" * 19, "#", "(7)", "7 7", "7, 7", "x", "-x", "-", "7.0", "!7"):
            self.refuse("an " + number)

    def test_a_number_missing(self):
        self.refuse("an")
        self.refuse("a3(a, b, a)")
        self.refuse("a2(an, b)")
        self.refuse("a2(an -, b)")

    def test_a_number_too_much(self):
        self.refuse("a 1")
        self.refuse("a -1")
        self.refuse("a 0")
        self.refuse("a1 1(b)")
        self.refuse("a1(b 1)")
        self.refuse("a1(b) 1")
        self.refuse("a3 1(a, b, a) 1")

    def test_too_few_children(self):
        self.refuse("a1")
        self.refuse("a2")
        self.refuse("a2(a)")
        self.refuse("a3 1")
        self.refuse("a3 1(a, b)")
        self.refuse("a2(a2(a), b)")

    def test_too_many_children(self):
        self.refuse("a(a)")
        self.refuse("a(b)")
        self.refuse("a1(b, b)")
        self.refuse("a2(a, b, a)")
        self.refuse("a3 1(a, b, a, a)")
        self.refuse("an 1(a)")

    def test_a_child_of_another_symbol(self):
        self.refuse("a1(a)")
        self.refuse("a2(b, a)")
        self.refuse("a2(a, a)")
        self.refuse("a2(b, b)")
        self.refuse("a3 1(a, a, a)")
        self.refuse("a3 1(a, b, b)")
        self.refuse("a3 1(b, b, a)")
        self.refuse("a2(a2(a, b), b1(b))")

    def test_no_such_production(self):
        self.refuse("x")
        self.refuse("a1(x)")
        self.refuse("A")
        self.refuse("B")
        self.refuse("v")
        self.refuse("aa")

    def test_tokens_behind_the_tree(self):
        for behind in ("a", ",", "(", ")", ";", "1", "(a)", ", a", "A", "if", "#", "."):
            self.refuse("a1(b) " + behind)
            self.refuse("an 1 " + behind)

    def test_texts_that_are_no_trees(self):
        for text in ("", " ", "\n", "()", "(a)", "a()", "a1()", "a1(b", "a1 b)", "a1(b))", "a1((b))", "a1(b,)",
                     "a1(,b)", "a2(a b)", "a2(a; b)", "a2(a, , b)", "a2(a,, b)", "a2 a, b", "a2(a, b", "a2(a, b,",
                     "a2(a,", "a2(", "a2[a, b]", "a2{a, b}", "1", "-", "1 a", "#", "if", "a3(a, b, a) 1", "a2(a)(b)",
                     "a2(a, b)(a, b)", "a1(b)(b)", "an(1)", "an 1()", "a1.b", "a1:b", "?", "a1(b)a", "$"):
            self.refuse(text)

    def test_the_numbers_of_the_nodes(self):
        # Each node's number is before those of its children's trees, these in order: cut nodes show it.
        text = "a3 1(a2(a, bn 1), ab -2(b1(a), an 3), a1(b))"
        found = ask(grammar(WIDE), tree(text), cut(1), cut(4), cut(8), begin())
        self.assertEqual(found[-1], [0, 0, 1, 1, 1, 2, 2, 2, 2, 3, 3])


class Sizes(unittest.TestCase):
    def test_sixty_nodes_and_one_more(self):
        def broad(count):
            triples = (count - 1) // 3
            ones = (count - 1) % 3
            return "t(p,p," * triples + "o(" * ones + "p" + ")" * (triples + ones)
        held = grammar("S > v; p S: { v = 1; } o S: S { v = 1; } t S: S S S { v = 1; }")
        for count in (58, 59, 60):
            self.assertEqual(last(held, tree(broad(count))), [0, count, count])
        self.assertEqual(last(held, tree(broad(61))), [-4])
        self.assertEqual(last(held, tree("t(" + ",".join([broad(20)] * 3) + ")")), [-4])
        self.assertEqual(last(held, tree("t(" + ",".join([broad(20), broad(20), broad(19)]) + ")")), [0, 60, 60])

    def test_twenty_four_levels_and_one_more(self):
        held = grammar("S > v; p S: { v = 1; } o S: S { v = 1; } t S: S S { v = 1; }")

        def chain(levels):
            return "o(" * (levels - 1) + "p" + ")" * (levels - 1)

        self.assertEqual(last(held, tree(chain(24))), [0, 24, 24])
        self.assertEqual(last(held, tree(chain(25))), [-4])
        self.assertEqual(last(held, tree("t(" + chain(23) + "," + chain(23) + ")")), [0, 47, 47])
        self.assertEqual(last(held, tree("t(p," + chain(24) + ")")), [-4])
        self.assertEqual(last(held, tree("t(" + chain(24) + ",p)")), [-4])

    def test_levels_end_with_their_nodes(self):
        held = grammar("S > v; p S: { v = 1; } o S: S { v = 1; } t S: S S S { v = 1; }")
        chain = "o(" * 18 + "p" + ")" * 18
        self.assertEqual(last(held, tree("t(%s,%s,%s)" % (chain, chain, chain))), [0, 58, 58])

    def test_very_deep_and_very_broad_texts(self):
        held = grammar("S > v; p S: { v = 1; } o S: S { v = 1; }")
        self.assertEqual(last(held, tree("o(" * 900 + "p" + ")" * 900)), [-4])
        self.assertEqual(last(held, tree("o(" * 1500)), [-4])
        self.assertEqual(last(held, tree("o(" + "p," * 1400 + "p)")), [-4])
        self.assertEqual(last(held, tree("p" + ")" * 2900)), [-4])

    def test_most_instances(self):
        held = grammar("S a > b c d; p S: { b = 1; c = 1; d = 1; } t S: S S S "
                       "{ b = 1; c = 1; d = 1; 1.a = 1; 2.a = 1; 3.a = 1; }")
        inner = "p"
        for size in range(19):
            inner = "t(p,p," + inner + ")"
        self.assertEqual(last(held, tree(inner)), [0, 58, 232])


class Refusals(unittest.TestCase):
    def test_no_grammar_held(self):
        self.assertEqual(last(tree("top(lit 3)")), [-3])
        self.assertEqual(last(tree("")), [-3])
        self.assertEqual(last(tree(" " * 3001)), [-3])
        self.assertEqual(last(tree("x" * 4000)), [-3])

    def test_lengths_with_a_grammar_held(self):
        self.assertEqual(answered("a".ljust(3000)), [0, 1, 1])
        self.assertEqual(answered("a".ljust(3001)), [-1])
        self.assertEqual(answered("a".ljust(4000)), [-1])
        self.assertEqual(answered("a" * 3000), [-4])
        self.assertEqual(answered("a" * 3001), [-1])
        self.assertEqual(answered([200] * 3000), [-4])
        self.assertEqual(answered([200] * 4000), [-1])

    def test_a_refused_tree_changes_nothing(self):
        for text, refusal in (("", -4), ("lit", -4), (" " * 3001, -1)):
            found = ask(grammar(SMALL), tree("top(lit 3)"), cut(1), tree(text), begin(), work(0), tree(text),
                        wire(), tree(text), deliver(0), work(1), begin())
            self.assertEqual(found[2:], [
                [0, 1], [refusal], [0, 0, 1], [0, 1, 1], [refusal], [0, 0, 1, 1, 0, 0, 4], [refusal],
                [0, 1, 1, 0, 1], [0, 1, 1], [-9]])

    def test_a_refused_first_tree(self):
        self.assertEqual(ask(grammar(SMALL), tree("lit"), cut(0), begin(), home(0, 0))[1:], [[-4], [-5], [-5], [-6]])


class NewTrees(unittest.TestCase):
    def test_a_new_tree_takes_the_place_of_the_old_one(self):
        found = ask(grammar(SMALL), tree("top(lit 3)"), tree("lit 5"), cut(1), begin(), home(0, 1))
        self.assertEqual(found[2:], [[0, 1, 2], [-10], [0, 0], [0, 0]])

    def test_nothing_but_the_root_is_cut(self):
        found = ask(grammar(SMALL), tree("top(lit 3)"), cut(1), tree("top(lit 3)"), cut(0), begin())
        self.assertEqual(found[3:], [[0, 2, 3], [-8], [0, 0, 0]])
        found = ask(grammar(SMALL), tree("top(lit 3)"), cut(1), tree("top(lit 3)"), cut(1), begin())
        self.assertEqual(found[4:], [[0, 1], [0, 0, 1]])

    def test_a_new_tree_while_the_work_has_begun(self):
        found = ask(grammar(SMALL), tree("top(lit 3)"), cut(1), begin(), work(0), tree("top(lit 3)"),
                    wire(), home(0, 0), work(0), deliver(0), cut(1), begin(), wire(), work(0), begin())
        self.assertEqual(found[5:], [
            [0, 2, 3], [-6], [-6], [-6], [-6], [0, 1], [0, 0, 1], [0], [0, 1, 1], [-9]])


if __name__ == "__main__":
    unittest.main()
