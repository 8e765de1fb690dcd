"""Point 13: the call all."""

import unittest

from tests.helper import (
    EXAMPLE, SMALL, ask, begin, cut, deliver, double, forget, full_wire, grammar, knows, lose, resend, status, tree, wire,
    work, work_all,
)
from tests.test_work import HELD

TWO = [grammar(SMALL), tree("top(lit 3)"), cut(1), begin()]

# The root hands down what the leaf handed up.
FORTH_AND_BACK = """S > v; E x y > p q;
top S: E { v = 1.q; 1.x = 1; 1.y = 1.p + 1; }
leaf E: { p = x + 1; q = y + 1; }
"""


class Turns(unittest.TestCase):
    def test_the_example_of_the_document(self):
        # d is worked out and delivered, then v at node 1, then v at node 0 without any message.
        found = ask(*TWO, work_all(), wire(), status(), knows(0, 0, 0), knows(1, 1, 0), knows(0, 1, 1))
        self.assertEqual(found[4:], [[0, 3, 2], [0], [0, 0, 0, 0, 2], [0, 0, 7], [0, 0, 4], [0, 0, 7]])

    def test_a_second_time_nothing_changes(self):
        self.assertEqual(ask(*TWO, work_all(), work_all(), work_all(), status())[4:],
                         [[0, 3, 2], [0, 0, 0], [0, 0, 0], [0, 0, 0, 0, 2]])

    def test_one_worker_alone(self):
        found = ask(grammar(SMALL), tree("top(lit 3)"), begin(), work_all(), work_all(), knows(0, 0, 0))
        self.assertEqual(found[3:], [[0, 1, 0], [0, 0, 0], [0, 0, 7]])

    def test_nothing_to_work_out_at_all(self):
        self.assertEqual(ask(grammar("S > ; p S: { }"), tree("p"), begin(), work_all(), status())[3:],
                         [[0, 0, 0], [0, 0, 0, 0, 0]])

    def test_several_workers(self):
        found = ask(*HELD, work_all(), wire(), status())
        # Turn 1: worker 0 sends three. Turn 2: worker 1 sends nothing, worker 2 two. Turn 3: worker 0 sends x at node 2.
        # Turn 4: worker 1 sends v at node 2. Turn 5: worker 0 has all.
        self.assertEqual(found[5:], [[0, 5, 7], [0], [0, 0, 0, 0, 7]])

    def test_forth_and_back(self):
        held = [grammar(FORTH_AND_BACK), tree("top(leaf)"), cut(1), begin()]
        found = ask(*held, work_all(), knows(0, 0, 0), status())
        # Worker 0 has x, worker 1 p, worker 0 y, worker 1 q, worker 0 v.
        self.assertEqual(found[4:], [[0, 5, 4], [0, 0, 4], [0, 0, 0, 0, 4]])

    def test_all_workers_work_ahead_of_all_messages(self):
        # Were a message delivered as soon as it is sent, fewer turns would do: the lower worker comes later in them.
        text = "S > v; E d > v; top S: E { v = 1.v; 1.d = 1; } mid E: E { v = 1.v; 1.d = d + 1; } leaf E: { v = d; }"
        for cuts, turns in (((1, 2), 5), ((2, 1), 5), ((1,), 3), ((2,), 3), ((), 1)):
            found = ask(grammar(text), tree("top(mid(leaf))"), *[cut(node) for node in cuts], begin(), work_all())
            self.assertEqual(found[-1], [0, turns, 2 * len(cuts)], cuts)

    def test_all_that_is_ready_in_one_turn_and_more_than_ten(self):
        inner = "add(lit 1, " * 20 + "lit 2" + ")" * 20
        found = ask(grammar(EXAMPLE), tree("top(" + inner + ")"), begin(), status(), work_all(), status(), knows(0, 0, 0))
        self.assertEqual(found[3:], [[0, 83, 1, 0, 0], [0, 1, 0], [0, 0, 0, 0, 0], [0, 0, 22 + sum(range(1, 21)) + 20]])

    def test_from_the_middle_of_the_work(self):
        self.assertEqual(ask(*TWO, work(0), work_all())[5:], [[0, 3, 2]])
        self.assertEqual(ask(*TWO, work(0), deliver(0), work_all())[6:], [[0, 2, 1]])
        self.assertEqual(ask(*TWO, work(0), deliver(0), work(1), deliver(0), work_all(), status())[8:],
                         [[0, 1, 0], [0, 0, 0, 0, 2]])


class MessagesOnTheWire(unittest.TestCase):
    def test_a_turn_with_messages_alone_has_changed_something(self):
        found = ask(*TWO, work_all(), resend(0), work_all(), resend(1), double(0), double(0), work_all(), work_all())
        self.assertEqual(found[5:], [[0, 1], [0, 1, 1], [0, 1], [0], [0], [0, 1, 3], [0, 0, 0]])

    def test_doubled_ones_are_counted_too(self):
        found = ask(*TWO, work(0), double(0), double(1), work_all(), status(), wire())
        self.assertEqual(found[7:], [[0, 3, 4], [0, 0, 0, 0, 4], [0]])

    def test_lost_ones_are_not_there(self):
        found = ask(*TWO, work(0), lose(0), work_all(), status(), resend(0), work_all(), status())
        self.assertEqual(found[6:], [[0, 0, 0], [0, 2, 0, 0, 1], [0, 1], [0, 3, 2], [0, 0, 0, 0, 3]])

    def test_behind_forget(self):
        found = ask(*TWO, work_all(), forget(0), work_all(), status(), resend(1), work_all(), status())
        # Worker 0 works d out again and sends it, and no more, for worker 1 has its own already.
        self.assertEqual(found[5:], [[0, 3], [0, 1, 1], [0, 1, 0, 0, 3], [0, 1], [0, 2, 1], [0, 0, 0, 0, 4]])

    def test_behind_double_deliver_and_forget(self):
        found = ask(*HELD, work(0), double(1), double(0), deliver(1), forget(2), work_all(), status(), resend(2), wire())
        self.assertEqual(found[-4:], [
            [0, 5, 8], [0, 0, 0, 0, 9], [0, 2], [0, 2, 0, 3, 2, 0, 3, 2, 0, 3, 3, 0, 4]])

    def test_a_full_wire_hinders_nothing(self):
        held = full_wire()
        # Worker 0 forgets, so that it sends 20 more in the first turn.
        for calls, sent in (([], 500), ([double(0)], 501), ([resend(0)], 520), ([double(0), forget(0)], 521)):
            found = ask(*held, *calls, work_all(), status(), knows(5, 11, 0))
            self.assertEqual(found[-3:], [[0, 2, sent], [0, 0, 0, 0, sent], [0, 0, 74]], calls)

    def test_full_wires_on_the_way(self):
        found = ask(*full_wire(), double(7), work(0, 1), work_all(), work(0, 1), status())
        self.assertEqual(found[-4:], [[-15], [0, 2, 501], [0, 0, 0], [0, 0, 0, 0, 501]])


class Circles(unittest.TestCase):
    def test_a_circle_alone(self):
        found = ask(grammar("S > v; p S: { v = v; }"), tree("p"), begin(), work_all(), status(), knows(0, 0, 0))
        self.assertEqual(found[3:], [[0, 0, 0], [0, 1, 0, 0, 0], [1]])

    def test_a_circle_through_two_workers_and_what_is_beside_it(self):
        text = "S > v r; E d > v w; top S: E { v = 1.w; r = 1.v; 1.d = 1.v; } leaf E: { v = d; w = 5; }"
        found = ask(grammar(text), tree("top(leaf)"), cut(1), begin(), work_all(), status(), knows(0, 0, 0),
                    knows(0, 0, 1), knows(0, 1, 0), knows(1, 1, 0), knows(1, 1, 1), knows(0, 1, 1))
        self.assertEqual(found[4:], [[0, 2, 1], [0, 3, 0, 0, 1], [0, 0, 5]] + [[1]] * 5)

    def test_a_circle_of_what_does_not_matter(self):
        text = "S > v; E d > v; top S: E { v = 1.v; 1.d = 0 & 1.v; } leaf E: { v = if 1 then 3 else d; }"
        found = ask(grammar(text), tree("top(leaf)"), cut(1), begin(), work_all(), resend(0), resend(1), work_all(),
                    status())
        self.assertEqual(found[4:], [[0, 0, 0], [0, 0], [0, 0], [0, 0, 0], [0, 3, 0, 0, 0]])


if __name__ == "__main__":
    unittest.main()
