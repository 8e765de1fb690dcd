"""Points 14 and 15: the calls knows and status."""

import unittest

from tests.helper import (
    GREATEST, SMALL, ask, begin, cut, deliver, double, forget, full_wire, grammar, knows, last, lose, resend, status, tree,
    wire, work, work_all,
)
from tests.test_work import HELD

# What worker 1 gets at node 1, one outcome of each kind.
KINDS = """S > v; E a b c d > ; F x > ;
top S: E E { v = 5; 1.a = -7; 1.b = [3, -4]; 1.c = [[], [[1], 2]]; 1.d = 1 / 0; 2.a = 1; 2.b = 2; 2.c = 3; 2.d = 4; }
mid E: F { 1.x = [a, b, c, d]; }
leaf F: { }
"""
KINDS_HELD = [grammar(KINDS), tree("top(mid(leaf), mid(leaf))"), cut(1), cut(3), begin()]
FORMS = [[0, -7], [1, 2, 0, 3, 0, -4], [1, 2, 1, 0, 1, 2, 1, 1, 0, 1, 0, 2], [2, 3]]

TWO = [grammar(SMALL), tree("top(lit 3)"), cut(1), begin()]


class Knows(unittest.TestCase):
    def test_by_the_home(self):
        found = ask(*KINDS_HELD, work(0), *[knows(0, 1, attribute) for attribute in range(4)], knows(0, 0, 0))
        self.assertEqual(found[6:], [[0] + form for form in FORMS] + [[0, 0, 5]])

    def test_by_the_receiver(self):
        asked = [knows(1, 1, attribute) for attribute in range(4)]
        found = ask(*KINDS_HELD, work(0), *asked, *[deliver(0)] * 4, *asked)
        self.assertEqual(found[6:10], [[1]] * 4)
        self.assertEqual(found[14:], [[0] + form for form in FORMS])

    def test_by_a_third_worker(self):
        asked = [knows(2, node, attribute) for node in (1, 2) for attribute in range(4 if node == 1 else 1)]
        self.assertEqual(ask(*KINDS_HELD, work_all(), *asked)[6:], [[1]] * 5)

    def test_what_was_worked_out_of_it(self):
        found = ask(*KINDS_HELD, work_all(), knows(1, 2, 0), knows(2, 4, 0), knows(0, 2, 0), knows(2, 2, 0))
        self.assertEqual(found[6:], [[0, 2, 3], [0, 1, 4, 0, 1, 0, 2, 0, 3, 0, 4], [1], [1]])

    def test_one_at_a_time(self):
        asked = [knows(0, 1, attribute) for attribute in (0, 1)]
        found = ask(*KINDS_HELD, *asked, work(0, 1), *asked, work(0, 1), *asked, work(0, 1), *asked)
        self.assertEqual(found[5:], [
            [1], [1], [0, 1, 0], [1], [1], [0, 1, 1], [0, 0, -7], [1], [0, 1, 1], [0, 0, -7], [0, 1, 2, 0, 3, 0, -4]])

    def test_right_behind_begin_nobody_knows_anything(self):
        asked = [knows(worker, node, attribute) for worker in range(3) for node in range(1, 4, 2) for attribute in range(4)]
        self.assertEqual(ask(*KINDS_HELD, *asked)[5:], [[1]] * 24)

    def test_lists_of_most_parts_and_depth(self):
        given = "[" + ", ".join(["[]"] * 57) + "]"
        seven = "cat(cat(cat(d, d), cat(d, d)), cat(d, cat(d, d)))"
        text = "S > r; E d > v w; top S: E { r = 1.v; 1.d = %s; } leaf E: { v = %s; w = %s; }" % (
            given, seven, "[" * 20 + "]" * 20)
        found = ask(grammar(text), tree("top(leaf)"), cut(1), begin(), work_all(), knows(0, 0, 0), knows(1, 1, 2))
        self.assertEqual(found[5:], [[0, 1, 399] + [1, 0] * 399, [0] + [1, 1] * 19 + [1, 0]])

    def test_every_fault(self):
        for expression, fault in (("[] + 1", 1), ("999999999999999999 + 1", 2), ("1 % 0", 3), ("at([], 0)", 4),
                                  ("[" * 21 + "]" * 21, 5)):
            found = ask(grammar("S > r; p S: { r = %s; }" % expression), tree("p"), begin(), work_all(), knows(0, 0, 0))
            self.assertEqual(found[-1], [0, 2, fault])

    def test_the_number_given_to_the_root(self):
        found = ask(grammar("S a b > v; p S: { v = a + b + 1; }"), tree("p"), begin(), knows(0, 0, 0), work(0, 1),
                    knows(0, 0, 0), knows(0, 0, 1), work_all(), knows(0, 0, 1), knows(0, 0, 2))
        self.assertEqual(found[3:], [[1], [0, 1, 0], [0, 0, 0], [1], [0, 1, 0], [0, 0, 0], [0, 0, 1]])

    def test_asking_changes_nothing(self):
        asked = [knows(worker, 1, attribute) for worker in (0, 1) for attribute in (0, 1)]
        found = ask(*TWO, *asked, status(), work(0), *asked, status(), wire())
        self.assertEqual(found[4:], [[1]] * 4 + [[0, 3, 1, 0, 0], [0, 1, 1], [0, 0, 4], [1], [1], [1], [0, 2, 0, 1, 1],
                                                 [0, 0, 1, 1, 0, 0, 4]])

    def test_no_such_worker(self):
        for worker in (-1, -2, -3, 3, 4, GREATEST, -GREATEST):
            for node, attribute in ((0, 0), (9, 0), (-1, 0), (0, 9), (0, -1), (GREATEST, -GREATEST)):
                self.assertEqual(last(*HELD, knows(worker, node, attribute)), [-13])
        self.assertEqual(last(*HELD, knows(2, 0, 0)), [1])

    def test_no_such_node(self):
        for node in (-1, -2, -4, 4, 5, GREATEST, -GREATEST):
            for attribute in (0, 1, -1, 4, GREATEST, -GREATEST):
                self.assertEqual(last(*HELD, work_all(), knows(0, node, attribute)), [-10])
        self.assertEqual(last(*HELD, knows(0, 3, 0)), [1])

    def test_no_such_attribute(self):
        for node, attribute in ((0, 2), (0, -1), (0, -2), (1, 4), (1, -1), (3, 4), (3, 5), (3, -4), (2, GREATEST),
                                (2, -GREATEST)):
            self.assertEqual(last(*HELD, work_all(), knows(1, node, attribute)), [-12])
        self.assertEqual(last(*HELD, knows(0, 0, 1)), [1])
        self.assertEqual(last(*HELD, knows(0, 3, 3)), [1])

    def test_a_full_wire_hinders_nothing(self):
        self.assertEqual(last(*full_wire(), double(0), knows(0, 10, 3)), [0, 0, 20])


class Status(unittest.TestCase):
    def test_right_behind_begin(self):
        self.assertEqual(last(*TWO, status()), [0, 3, 1, 0, 0])
        self.assertEqual(last(*HELD, status()), [0, 14, 1, 0, 0])
        self.assertEqual(last(*KINDS_HELD, status()), [0, 11, 9, 0, 0])
        self.assertEqual(last(grammar("S > ; p S: { }"), tree("p"), begin(), status()), [0, 0, 0, 0, 0])

    def test_during_the_work(self):
        found = ask(*TWO, work(0), status(), deliver(0), status(), work(1), status(), deliver(0), status(), work(0),
                    status())
        self.assertEqual(found[5::2], [
            [0, 2, 0, 1, 1], [0, 2, 1, 0, 1], [0, 1, 0, 1, 2], [0, 1, 1, 0, 2], [0, 0, 0, 0, 2]])

    def test_ready_ones_of_all_workers(self):
        found = ask(*KINDS_HELD, work(0), status(), *[deliver(0)] * 4, status(), *[deliver(0)] * 4, status(), work(2),
                    status(), work_all(), status())
        self.assertEqual([found[spot] for spot in (6, 11, 16, 18, 20)],
                         [[0, 2, 0, 8, 8], [0, 2, 1, 4, 8], [0, 2, 2, 0, 8], [0, 1, 1, 0, 8], [0, 0, 0, 0, 8]])

    def test_behind_all_and_behind_forget(self):
        found = ask(*HELD, work_all(), status(), forget(0), status(), forget(1), status(), forget(2), status())
        self.assertEqual(found[6::2], [[0, 0, 0, 0, 7], [0, 10, 1, 0, 7], [0, 12, 1, 0, 7], [0, 14, 1, 0, 7]])

    def test_what_another_than_the_home_knows_does_not_count(self):
        found = ask(*TWO, work(0), deliver(0), forget(0), status(), knows(1, 1, 0))
        self.assertEqual(found[-2:], [[0, 3, 2, 0, 1], [0, 0, 4]])

    def test_circles_are_not_known_and_not_ready(self):
        text = "S > v w x; p S: { v = w; w = v; x = 2; }"
        found = ask(grammar(text), tree("p"), begin(), status(), work_all(), status())
        self.assertEqual(found[3:], [[0, 3, 1, 0, 0], [0, 1, 0], [0, 2, 0, 0, 0]])

    def test_put_on_the_wire_with_the_doubled_ones_and_the_ones_sent_again(self):
        found = ask(*HELD, work(0), status(), double(0), status(), double(3), status(), resend(0), status(), resend(1),
                    status(), forget(0), work(0), status())
        self.assertEqual([answer[3:] for answer in found[6::2][:5]], [[3, 3], [4, 4], [5, 5], [8, 8], [8, 8]])
        self.assertEqual(found[-3:], [[0, 7], [0, 7, 3], [0, 7, 0, 11, 11]])

    def test_neither_delivering_nor_losing_makes_it_less(self):
        found = ask(*HELD, work(0), double(0), status(), deliver(0), status(), lose(0), status(), deliver(1), status(),
                    lose(0), status(), lose(0), status())
        self.assertEqual([answer[3:] for answer in found[7::2]], [[4, 4], [3, 4], [2, 4], [1, 4], [0, 4], [0, 4]])

    def test_refused_ones_are_not_counted(self):
        held = [*full_wire(), double(0)]
        found = ask(*held, double(0), resend(0), forget(0), work(0), lose(501), deliver(-1), double(-1), resend(6), status())
        self.assertEqual(found[len(held):], [
            [-15], [-15], [0, 20], [-15], [-16], [-16], [-16], [-13], [0, 25, 20, 501, 501]])

    def test_a_new_tree_and_a_new_begin_set_it_back(self):
        again = [tree("top(lit 3)"), cut(1), begin()]
        found = ask(*TWO, work_all(), double(0), status(), *again, status(), work(0), status(), grammar(SMALL), *again,
                    status())
        self.assertEqual([answer for answer in found if len(answer) == 5],
                         [[0, 0, 0, 0, 2], [0, 3, 1, 0, 0], [0, 2, 0, 1, 1], [0, 3, 1, 0, 0]])

    def test_a_refused_begin_tree_or_grammar_leaves_it(self):
        found = ask(*TWO, work(0), double(0), begin(), tree("x"), grammar("x"), cut(1), status())
        self.assertEqual(found[6:], [[-9], [-4], [-2], [-9], [0, 2, 0, 2, 2]])

    def test_asking_changes_nothing(self):
        told = last(*HELD, work(0), wire())
        self.assertEqual(ask(*HELD, work(0), status(), status(), wire(), work(0), status())[6:],
                         [[0, 7, 0, 3, 3], [0, 7, 0, 3, 3], told, [0, 0, 0], [0, 7, 0, 3, 3]])


if __name__ == "__main__":
    unittest.main()
