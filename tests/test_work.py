"""Point 6: the call work."""

import unittest

from tests.helper import (
    GREATEST, SMALL, ask, begin, cut, deliver, double, forget, full_wire, grammar, home, last, lose, status, tree, wire,
    work,
)
from tests.test_workers import FLOW

HELD = [grammar(FLOW), tree("top(pair(leaf 1, leaf 2))"), cut(2), cut(3), begin()]


class Alone(unittest.TestCase):
    def test_one_worker_works_all_out(self):
        found = ask(grammar(FLOW), tree("top(pair(leaf 1, leaf 2))"), begin(), work(0), wire(), work(0))
        self.assertEqual(found[3:], [[0, 14, 0], [0], [0, 0, 0]])

    def test_nothing_to_work_out(self):
        self.assertEqual(last(grammar("S > ; p S: { }"), tree("p"), begin(), work(0)), [0, 0, 0])

    def test_what_is_handed_down_to_the_root_is_the_number_nought(self):
        text = "S a b > v; E d > ; p S: E { v = a; 1.d = [a, b]; } q E: T { 1.e = d; } T e > ; r T: { }"
        found = ask(grammar(text), tree("p(q(r))"), cut(1), begin(), work(0, 1), work(0, 1), work(0), wire())
        self.assertEqual(found[4:], [[0, 1, 0], [0, 1, 0], [0, 2, 1], [0, 0, 1, 1, 0, 1, 2, 0, 0, 0, 0]])


class Several(unittest.TestCase):
    def test_the_example_of_the_document(self):
        found = ask(grammar(SMALL), tree("top(lit 3)"), cut(1), begin(), work(1), work(0), wire(), work(1), deliver(0),
                    wire(), work(1), wire(), work(0), deliver(0), work(0), wire())
        self.assertEqual(found[4:], [
            [0, 0, 0], [0, 1, 1], [0, 0, 1, 1, 0, 0, 4], [0, 0, 0], [0, 1, 1, 0, 1], [0], [0, 1, 1],
            [0, 1, 0, 1, 1, 0, 7], [0, 0, 0], [0, 0, 1, 1, 1], [0, 1, 0], [0]])

    def test_a_tree_worked_out_step_by_step(self):
        found = ask(*HELD, work(0), wire(), deliver(1), work(2), wire(), deliver(2), work(0), wire())
        self.assertEqual(found[5:], [
            [0, 7, 3], [0, 0, 1, 2, 0, 0, 2, 0, 2, 3, 0, 0, 3, 0, 2, 3, 1, 0, 1],
            [0, 2, 3, 0, 1],
            [0, 1, 1], [0, 0, 1, 2, 0, 0, 2, 0, 2, 3, 1, 0, 1, 2, 0, 3, 3, 0, 4],
            [0, 0, 3, 3, 1],
            [0, 1, 1], [0, 0, 1, 2, 0, 0, 2, 0, 2, 3, 1, 0, 1, 0, 1, 2, 1, 0, 4]])

    def test_only_what_the_worker_is_home_of_and_knows(self):
        found = ask(*HELD, work(1), work(2), work(0), work(1), deliver(0), work(1), wire())
        # Worker 1 knows d at node 2 alone, so w is ready there and v is not.
        self.assertEqual(found[5:], [
            [0, 0, 0], [0, 0, 0], [0, 7, 3], [0, 0, 0], [0, 1, 2, 0, 1], [0, 1, 0],
            [0, 0, 2, 3, 0, 0, 3, 0, 2, 3, 1, 0, 1]])

    def test_all_is_worked_out_in_the_end(self):
        found = ask(*HELD, work(0), deliver(0), deliver(0), deliver(0), work(1), work(2), wire(), deliver(0),
                    deliver(0), work(0), wire(), deliver(0), work(1), wire(), deliver(0), work(0), wire(),
                    work(0), work(1), work(2))
        self.assertEqual(found[9:], [
            [0, 1, 0], [0, 2, 2], [0, 2, 0, 3, 2, 0, 3, 2, 0, 3, 3, 0, 4],
            [0, 0, 3, 2, 1], [0, 0, 3, 3, 1], [0, 1, 1], [0, 0, 1, 2, 1, 0, 4], [0, 1, 2, 1, 1],
            [0, 1, 1], [0, 1, 0, 2, 2, 0, 5], [0, 0, 2, 2, 1], [0, 2, 0], [0],
            [0, 0, 0], [0, 0, 0], [0, 0, 0]])


class Order(unittest.TestCase):
    def test_the_first_ready_one_again_and_again(self):
        # Node 1 is ready only when node 3 was worked out, and then it is ahead of node 4 again.
        text = """S > v; E d > v; top S: E E E { v = 1.v + 2.v + 3.v; 1.d = 2.d + 10; 2.d = 1; 3.d = 1.d + 10; }
                  leaf E: { v = d; }"""
        held = [grammar(text), tree("top(leaf, leaf, leaf)"), cut(1), cut(2), cut(3), begin()]
        told = [0, 0, 2, 2, 0, 0, 1, 0, 1, 1, 0, 0, 11, 0, 3, 3, 0, 0, 21]
        self.assertEqual(ask(*held, work(0), wire())[-2:], [[0, 3, 3], told])
        found = ask(*held, work(0, 1), wire(), work(0, 1), wire(), work(0, 1), wire(), work(0, 1))
        self.assertEqual(found[6:], [[0, 1, 1], told[:7], [0, 1, 1], told[:13], [0, 1, 1], told, [0, 0, 0]])

    def test_one_that_gets_ready_goes_ahead_of_those_behind_it(self):
        text = """S > v; E d > v; top S: E E E { v = 1.v + 2.v + 3.v; 1.d = 2.d; 2.d = 1; 3.d = 2; }
                  leaf E: { v = d; }"""
        found = ask(grammar(text), tree("top(leaf, leaf, leaf)"), cut(1), cut(2), cut(3), begin(), work(0), wire())
        self.assertEqual(found[-1], [0, 0, 2, 2, 0, 0, 1, 0, 1, 1, 0, 0, 1, 0, 3, 3, 0, 0, 2])

    def test_by_nodes_and_at_one_node_by_attributes(self):
        text = """S > v; E a b > c d; top S: E E { v = 1.c + 1.d + 2.d + 2.c; 2.b = 4; 2.a = 3; 1.b = 2; 1.a = 1; }
                  leaf E: { d = a; c = b; }"""
        held = [grammar(text), tree("top(leaf, leaf)"), cut(2), cut(1), begin()]
        found = ask(*held, work(0), wire(), deliver(0), deliver(0), deliver(0), deliver(0), work(1), work(2), wire())
        self.assertEqual(found[6], [0, 0, 2, 1, 0, 0, 1, 0, 2, 1, 1, 0, 2, 0, 1, 2, 0, 0, 3, 0, 1, 2, 1, 0, 4])
        self.assertEqual(found[-1], [0, 1, 0, 2, 2, 0, 4, 1, 0, 2, 3, 0, 3, 2, 0, 1, 2, 0, 2, 2, 0, 1, 3, 0, 1])

    def test_more_than_ten_nodes_in_the_order_of_their_numbers(self):
        text = """S > v; E d > v; top S: E { v = 1.v; 1.d = 0; } leaf E: { v = d; }
                  two E: E E { v = 1.v + 2.v; 1.d = d + 1; 2.d = d + 1; }"""
        inner = "two(leaf," * 5 + "leaf" + ")" * 5
        cuts = [cut(node) for node in (2, 4, 6, 8, 10, 11)]
        found = ask(grammar(text), tree("top(" + inner + ")"), *cuts, begin(), work(0), wire())
        told = found[-1][1:]
        self.assertEqual([told[spot + 2] for spot in range(0, len(told), 6)], [2, 4, 6, 8, 10, 11])
        self.assertEqual([told[spot + 5] for spot in range(0, len(told), 6)], [1, 2, 3, 4, 5, 5])


class Most(unittest.TestCase):
    def test_nought_one_and_a_thousand(self):
        found = ask(*HELD, work(0, 0), wire(), work(0, 1), work(0, 4), wire(), work(0, 1000), work(0, 0))
        self.assertEqual(found[5:], [
            [0, 0, 0], [0], [0, 1, 0], [0, 4, 1], [0, 0, 1, 2, 0, 0, 2], [0, 2, 2], [0, 0, 0]])

    def test_just_as_many_as_are_ready(self):
        self.assertEqual(ask(*HELD, work(0, 7), work(0, 7))[5:], [[0, 7, 3], [0, 0, 0]])
        self.assertEqual(ask(*HELD, work(0, 6), work(0, 7))[5:], [[0, 6, 2], [0, 1, 1]])
        self.assertEqual(ask(*HELD, work(0, 8), work(0, 7))[5:], [[0, 7, 3], [0, 0, 0]])


class Circles(unittest.TestCase):
    def test_an_instance_that_names_itself(self):
        found = ask(grammar("S > v w x; p S: { v = v; w = v + 1; x = 2; }"), tree("p"), begin(), work(0), work(0))
        self.assertEqual(found[3:], [[0, 1, 0], [0, 0, 0]])

    def test_what_does_not_matter_makes_a_circle_too(self):
        found = ask(grammar("S > v w x; p S: { v = if 1 then 5 else v; w = 0 & w; x = 1 | x; }"), tree("p"), begin(),
                    work(0))
        self.assertEqual(found[-1], [0, 0, 0])

    def test_a_condition_makes_no_circle(self):
        self.assertEqual(last(grammar("S > v; p S: { v = 1; ? v; }"), tree("p"), begin(), work(0)), [0, 1, 0])

    def test_a_circle_through_two_workers(self):
        text = "S > v r; E d > v w; top S: E { v = 1.w; r = 1.v; 1.d = 1.v; } leaf E: { v = d; w = 5; }"
        found = ask(grammar(text), tree("top(leaf)"), cut(1), begin(), work(0), work(1), wire(), deliver(0), work(0),
                    work(1), wire())
        self.assertEqual(found[4:], [
            [0, 0, 0], [0, 1, 1], [0, 1, 0, 1, 2, 0, 5], [0, 0, 1, 2, 1], [0, 1, 0], [0, 0, 0], [0]])

    def test_a_circle_at_one_node_and_none_at_another(self):
        text = "S > v; one S: S { v = 1.v; } two S: S S { v = 1.v + 2.v; } self S: { v = v; } leaf S: { v = 1; }"
        found = ask(grammar(text), tree("two(one(self), one(leaf))"), cut(1), cut(3), begin(), work(0), work(1), work(2),
                    wire(), deliver(0), work(0))
        self.assertEqual(found[5:], [
            [0, 0, 0], [0, 0, 0], [0, 2, 1], [0, 2, 0, 3, 0, 0, 1], [0, 0, 3, 0, 1], [0, 0, 0]])


class Refusals(unittest.TestCase):
    def test_not_begun(self):
        for calls in ([], [grammar(SMALL)], [grammar(SMALL), tree("top(lit 3)")], [grammar(SMALL), tree("x")]):
            for worker, most in ((0, 1), (-1, 1), (0, -1), (9, 9999)):
                self.assertEqual(last(*calls, work(worker, most)), [-6])

    def test_no_such_worker(self):
        for worker in (-1, -2, -3, 3, 4, GREATEST, -GREATEST):
            for most in (0, 5, -1, 1001, GREATEST):
                self.assertEqual(last(*HELD, work(worker, most)), [-13])
        self.assertEqual(last(*HELD, work(2, 0)), [0, 0, 0])

    def test_wrong_most(self):
        for most in (-1, -2, 1001, 1002, GREATEST, -GREATEST):
            for worker in (0, 1, 2):
                self.assertEqual(last(*HELD, work(worker, most)), [-14])

    def test_a_refused_work_changes_nothing(self):
        found = ask(*HELD, work(0, -1), work(0, 1001), work(3, 5), wire(), work(0), work(0, -1), wire(), home(2, 0))
        self.assertEqual(found[5:9], [[-14], [-14], [-13], [0]])
        self.assertEqual(found[9], [0, 7, 3])
        self.assertEqual(len(found[11]), 1 + 3 * 6)

    def test_more_than_five_hundred_messages(self):
        # Behind full_wire worker 0 has worked out all that is its own, so it forgets to be ready again.
        held = [*full_wire(), forget(0)]
        found = ask(*held, work(0, 1), work(0, 0), work(0, 1), work(1, 1000), work(6, 1), work(-1, 1), work(0, -1),
                    work(5, 1001), status(), lose(0), work(0, 1), work(0, 1), lose(0), work(0), work(0), status())
        self.assertEqual(found[len(held):], [
            [0, 1, 1], [-15], [-15], [-15], [-13], [-13], [-14], [-14], [0, 24, 19, 501, 501], [0], [0, 1, 1], [-15],
            [0], [0, 18, 18], [-15], [0, 5, 0, 518, 520]])

    def test_a_refusal_for_a_full_wire_changes_nothing(self):
        held = [*full_wire(), double(0), forget(0)]
        told = ask(*held, wire(), status(), work(0, 1), work(0, 1000), work(0, 0), status(), wire())[len(held):]
        self.assertEqual(told[2:5], [[-15]] * 3)
        self.assertEqual(told[:2], [told[6], told[5]])


if __name__ == "__main__":
    unittest.main()
