"""Points 3 to 5: the calls cut, begin and home."""

import unittest

from tests.helper import GREATEST, SMALL, ask, begin, cut, deliver, grammar, home, last, tree, wire, work

FLOW = """S a > v; E d x > v w;
top S: E { v = 1.v + a; 1.d = a + 1; 1.x = 1.w; }
pair E: E E { v = 1.v + 2.v; w = d; 1.d = d + 1; 1.x = 2.w; 2.d = d + 2; 2.x = x; }
leaf E #: { v = # + x; w = d + 1; }
"""

PLAIN = "S > v; leaf S: { v = 1; } one S: S { v = 1.v; } two S: S S { v = 1.v; } three S: S S S { v = 1.v; }"


class Cut(unittest.TestCase):
    def test_workers_in_the_order_of_cutting(self):
        found = ask(grammar(PLAIN), tree("three(leaf, leaf, leaf)"), cut(3), cut(1), cut(2), begin())
        self.assertEqual(found[2:], [[0, 1], [0, 2], [0, 3], [0, 0, 2, 3, 1]])

    def test_no_tree_held(self):
        for node in (0, 1, -1, GREATEST):
            self.assertEqual(last(cut(node)), [-5])
            self.assertEqual(last(grammar(PLAIN), cut(node)), [-5])

    def test_the_work_has_begun(self):
        held = (grammar(PLAIN), tree("two(leaf, leaf)"), cut(1), begin())
        for node in (0, 1, 2, 3, -1, GREATEST, -GREATEST):
            self.assertEqual(last(*held, cut(node)), [-9], node)

    def test_no_such_node(self):
        held = (grammar(PLAIN), tree("two(leaf, leaf)"))
        for node in (-1, -2, -3, 3, 4, GREATEST, -GREATEST):
            self.assertEqual(last(*held, cut(node)), [-10], node)
        self.assertEqual(last(*held, cut(2)), [0, 1])

    def test_cut_already(self):
        held = (grammar(PLAIN), tree("two(leaf, leaf)"))
        self.assertEqual(last(*held, cut(0)), [-8])
        self.assertEqual(ask(*held, cut(1), cut(1), cut(2), cut(1), cut(2), cut(0))[2:],
                         [[0, 1], [-8], [0, 2], [-8], [-8], [-8]])

    def test_eight_workers(self):
        held = [grammar(PLAIN), tree("three(" + ",".join(["three(leaf,leaf,leaf)"] * 3) + ")")]
        cuts = [cut(node) for node in range(1, 8)]
        found = ask(*held, *cuts, cut(8), cut(9), cut(0), cut(3), cut(13), cut(-1), begin())
        self.assertEqual(found[2:], [
            [0, 1], [0, 2], [0, 3], [0, 4], [0, 5], [0, 6], [0, 7],
            [-11], [-11], [-8], [-8], [-10], [-10],
            [0, 0, 1, 2, 3, 4, 5, 6, 7, 5, 0, 0, 0, 0]])

    def test_a_refused_cut_changes_nothing(self):
        found = ask(grammar(PLAIN), tree("two(leaf, leaf)"), cut(5), cut(0), cut(-1), cut(2), cut(2), cut(1), begin(),
                    cut(1), work(1), cut(9), wire())
        self.assertEqual(found[2:], [
            [-10], [-8], [-10], [0, 1], [-8], [0, 2], [0, 0, 2, 1], [-9], [0, 1, 0], [-9], [0]])


class Begin(unittest.TestCase):
    def test_nothing_cut(self):
        self.assertEqual(last(grammar(PLAIN), tree("two(one(leaf), leaf)"), begin()), [0, 0, 0, 0, 0])
        self.assertEqual(last(grammar(PLAIN), tree("leaf"), begin()), [0, 0])

    def test_nodes_belong_to_the_nearest_cut_node_above(self):
        held = [grammar(PLAIN), tree("one(one(two(one(leaf), one(one(leaf)))))")]
        self.assertEqual(last(*held, cut(1), cut(6), begin()), [0, 0, 1, 1, 1, 1, 1, 2, 2])
        self.assertEqual(last(*held, cut(6), cut(1), begin()), [0, 0, 2, 2, 2, 2, 2, 1, 1])
        self.assertEqual(last(*held, cut(3), cut(7), cut(2), begin()), [0, 0, 0, 3, 1, 1, 3, 3, 2])
        self.assertEqual(last(*held, cut(7), begin()), [0, 0, 0, 0, 0, 0, 0, 0, 1])

    def test_no_tree_held(self):
        self.assertEqual(last(begin()), [-5])
        self.assertEqual(last(grammar(PLAIN), begin()), [-5])
        self.assertEqual(ask(grammar(PLAIN), tree("x"), begin())[1:], [[-4], [-5]])

    def test_begun_already(self):
        found = ask(grammar(SMALL), tree("top(lit 3)"), cut(1), begin(), begin(), work(0), begin(), wire())
        self.assertEqual(found[3:], [[0, 0, 1], [-9], [0, 1, 1], [-9], [0, 0, 1, 1, 0, 0, 4]])

    def test_nobody_knows_anything_and_the_wire_is_empty(self):
        held = [tree("top(lit 3)"), cut(1), begin()]
        found = ask(grammar(SMALL), *held, work(0), deliver(0), work(1), *held, wire(), work(1), work(0))
        self.assertEqual(found[-3:], [[0], [0, 0, 0], [0, 1, 1]])


class Home(unittest.TestCase):
    def homes(self, held, cuts, pairs):
        calls = [home(node, attribute) for node, attribute in pairs]
        return ask(*held, *[cut(node) for node in cuts], begin(), *calls)[-len(pairs):]

    def test_the_example_of_the_document(self):
        held = [grammar(SMALL), tree("top(lit 3)")]
        self.assertEqual(self.homes(held, [1], [(0, 0), (1, 0), (1, 1)]), [[0, 0], [0, 0, 1], [0, 1, 0]])
        self.assertEqual(self.homes(held, [], [(0, 0), (1, 0), (1, 1)]), [[0, 0], [0, 0], [0, 0]])

    def test_handed_down_and_up(self):
        held = [grammar(FLOW), tree("top(pair(leaf 1, leaf 2))")]
        pairs = [(0, 0), (0, 1)] + [(node, attribute) for node in (1, 2, 3) for attribute in range(4)]
        self.assertEqual(self.homes(held, [2, 3], pairs), [
            [0, 0], [0, 0],
            [0, 0], [0, 0], [0, 0], [0, 0],
            [0, 0, 1], [0, 0, 1], [0, 1, 0], [0, 1],
            [0, 0, 2], [0, 0, 2], [0, 2, 0], [0, 2, 0]])
        self.assertEqual(self.homes(held, [3, 1], pairs), [
            [0, 0], [0, 0],
            [0, 0, 2], [0, 0, 2], [0, 2, 0], [0, 2, 0],
            [0, 2], [0, 2], [0, 2], [0, 2],
            [0, 2, 1], [0, 2, 1], [0, 1, 2], [0, 1, 2]])
        self.assertEqual(self.homes(held, [], pairs), [[0, 0]] * 14)

    def test_handed_down_to_the_root(self):
        held = [grammar(FLOW), tree("pair(leaf 1, leaf 2)")]
        self.assertEqual(self.homes(held, [1, 2], [(0, 0), (0, 1), (0, 2), (0, 3)]), [[0, 0]] * 4)

    def test_what_no_equation_of_another_worker_names(self):
        text = "S > v; E d e > v w; top S: E { v = 1.v + 1.d; 1.d = 1; 1.e = 1.w; } leaf E: { v = w; w = 1; ? d; }"
        held = [grammar(text), tree("top(leaf)")]
        # A condition makes nobody need what it names.
        self.assertEqual(self.homes(held, [1], [(1, 0), (1, 1), (1, 2), (1, 3)]),
                         [[0, 0], [0, 0], [0, 1, 0], [0, 1, 0]])

    def test_not_begun(self):
        for calls in ([], [grammar(SMALL)], [grammar(SMALL), tree("top(lit 3)")],
                      [grammar(SMALL), tree("top(lit 3)"), cut(1)]):
            for node, attribute in ((0, 0), (-1, 0), (0, -1), (9, 9)):
                self.assertEqual(last(*calls, home(node, attribute)), [-6])

    def test_no_such_node(self):
        held = [grammar(SMALL), tree("top(lit 3)"), begin()]
        for node in (-1, -2, 2, 3, GREATEST, -GREATEST):
            for attribute in (0, 1, -1, 9, GREATEST):
                self.assertEqual(last(*held, home(node, attribute)), [-10])

    def test_no_such_attribute(self):
        held = [grammar(SMALL), tree("top(lit 3)"), begin()]
        for node, attribute in ((0, 1), (0, -1), (1, 2), (1, -1), (1, -2), (0, GREATEST), (1, -GREATEST)):
            self.assertEqual(last(*held, home(node, attribute)), [-12])

    def test_nodes_without_attributes(self):
        self.assertEqual(last(grammar("S > ; p S: { }"), tree("p"), begin(), home(0, 0)), [-12])


if __name__ == "__main__":
    unittest.main()
