"""Points 7 and 8: the calls wire and deliver."""

import unittest

from tests.helper import (
    GREATEST, SMALL, ask, begin, cut, deliver, double, forget, grammar, last, resend, tree, wire, work,
)

# Four leaves, each of which gets its own outcome from the root's worker.
FOUR = """S > v; E d > v; top S: E E E { v = 1.v + 2.v + 3.v; 1.d = [7, []]; 2.d = 1 / 0; 3.d = -5; }
leaf E: { v = d; }
"""
HELD = [grammar(FOUR), tree("top(leaf, leaf, leaf)"), cut(3), cut(1), cut(2), begin()]

FIRST = [0, 2, 1, 0, 1, 2, 0, 7, 1, 0]
SECOND = [0, 3, 2, 0, 2, 3]
THIRD = [0, 1, 3, 0, 0, -5]


class Wire(unittest.TestCase):
    def test_messages_in_their_order_with_flat_forms(self):
        self.assertEqual(ask(*HELD, wire(), work(0), wire())[6:], [[0], [0, 3, 3], [0] + FIRST + SECOND + THIRD])

    def test_the_wire_is_not_changed_by_telling_it(self):
        told = [0] + FIRST + SECOND + THIRD
        self.assertEqual(ask(*HELD, work(0), wire(), wire(), wire())[7:], [told, told, told])

    def test_new_messages_are_put_behind_the_others(self):
        found = ask(*HELD, work(0), deliver(1), work(3), wire(), deliver(0), work(2), wire())
        self.assertEqual(found[9], [0] + FIRST + THIRD + [3, 0, 2, 1, 2, 3])
        self.assertEqual(found[12], [0] + THIRD + [3, 0, 2, 1, 2, 3] + [2, 0, 1, 1, 1, 2, 0, 7, 1, 0])

    def test_not_begun(self):
        for calls in ([], [grammar(SMALL)], [grammar(SMALL), tree("top(lit 3)")],
                      [grammar(SMALL), tree("top(lit 3)"), cut(1)]):
            self.assertEqual(last(*calls, wire()), [-6])

    def test_flat_forms_of_long_and_deep_lists(self):
        given = "[" + ", ".join(["[]"] * 57) + "]"
        six = "cat(cat(cat(d, d), cat(d, d)), cat(d, cat(d, d)))"
        text = "S > r; E d > v; top S: E { r = 1.v; 1.d = %s; } leaf E: { v = %s; }" % (given, six)
        found = ask(grammar(text), tree("top(leaf)"), cut(1), begin(), work(0), deliver(0), work(1), wire())
        self.assertEqual(found[-1], [0, 1, 0, 1, 1, 1, 399] + [1, 0] * 399)
        text = "S > r; E > v; top S: E { r = 1.v; } leaf E: { v = %s; }" % ("[" * 20 + "]" * 20)
        found = ask(grammar(text), tree("top(leaf)"), cut(1), begin(), work(1), wire())
        self.assertEqual(found[-1], [0, 1, 0, 1, 0] + [1, 1] * 19 + [1, 0])

    def test_flat_forms_of_every_fault(self):
        for expression, fault in (("[] + 1", 1), ("999999999999999999 + 1", 2), ("1 % 0", 3), ("at([], 0)", 4),
                                  ("[" * 21 + "]" * 21, 5)):
            text = "S > r; E > v; top S: E { r = 1.v; } leaf E: { v = %s; }" % expression
            found = ask(grammar(text), tree("top(leaf)"), cut(1), begin(), work(1), wire())
            self.assertEqual(found[-1], [0, 1, 0, 1, 0, 2, fault])


class Deliver(unittest.TestCase):
    def test_what_is_answered_and_taken_off(self):
        found = ask(*HELD, work(0), deliver(1), wire(), deliver(1), wire(), deliver(0), wire())
        self.assertEqual(found[7:], [
            [0, 3, 2, 0, 1], [0] + FIRST + THIRD, [0, 1, 3, 0, 1], [0] + FIRST, [0, 2, 1, 0, 1], [0]])

    def test_the_receiver_knows_it_from_then_on(self):
        found = ask(*HELD, work(0), work(2), deliver(0), work(1), work(3), work(2), wire())
        self.assertEqual(found[7:], [
            [0, 0, 0], [0, 2, 1, 0, 1], [0, 0, 0], [0, 0, 0], [0, 1, 1],
            [0] + SECOND + THIRD + [2, 0, 1, 1, 1, 2, 0, 7, 1, 0]])

    def test_faults_are_delivered_too(self):
        found = ask(*HELD, work(0), deliver(1), work(3), wire())
        self.assertEqual(found[-1], [0] + FIRST + THIRD + [3, 0, 2, 1, 2, 3])

    def test_no_such_message(self):
        for number in (-1, -2, -3, -4, 3, 4, GREATEST, -GREATEST):
            found = ask(*HELD, work(0), deliver(number), wire())
            self.assertEqual(found[7:], [[-16], [0] + FIRST + SECOND + THIRD], number)

    def test_no_message_on_the_wire(self):
        for number in (0, -1, 1):
            self.assertEqual(last(*HELD, deliver(number)), [-16])
        found = ask(*HELD, work(0), deliver(2), deliver(2), deliver(1), deliver(1), deliver(0), deliver(0))
        self.assertEqual(found[7:], [[0, 1, 3, 0, 1], [-16], [0, 3, 2, 0, 1], [-16], [0, 2, 1, 0, 1], [-16]])

    def test_a_refused_deliver_changes_nothing(self):
        found = ask(*HELD, work(0), deliver(-1), deliver(3), work(1), work(2), work(3), wire())
        self.assertEqual(found[7:], [
            [-16], [-16], [0, 0, 0], [0, 0, 0], [0, 0, 0], [0] + FIRST + SECOND + THIRD])

    def test_not_begun(self):
        for calls in ([], [grammar(SMALL)], [grammar(SMALL), tree("top(lit 3)")],
                      [grammar(SMALL), tree("top(lit 3)"), cut(1)]):
            for number in (0, -1, 5):
                self.assertEqual(last(*calls, deliver(number)), [-6])

    def test_what_was_known_before(self):
        found = ask(*HELD, work(0), double(1), double(1), deliver(4), deliver(1), deliver(2), work(3), wire())
        self.assertEqual(found[9:], [
            [0, 3, 2, 0, 1], [0, 3, 2, 0, 0], [0, 3, 2, 0, 0], [0, 1, 1], [0] + FIRST + THIRD + [3, 0, 2, 1, 2, 3]])

    def test_what_was_known_before_and_is_sent_again(self):
        found = ask(*HELD, work(0), deliver(0), resend(0), deliver(2), deliver(0), wire())
        self.assertEqual(found[7:], [
            [0, 2, 1, 0, 1], [0, 3], [0, 2, 1, 0, 0], [0, 3, 2, 0, 1], [0] + THIRD + SECOND + THIRD])

    def test_what_was_forgotten_is_new_again(self):
        found = ask(*HELD, work(0), double(0), deliver(0), forget(2), deliver(2), work(2))
        self.assertEqual(found[8:], [[0, 2, 1, 0, 1], [0, 1], [0, 2, 1, 0, 1], [0, 1, 1]])

    def test_the_order_of_delivery_does_not_matter(self):
        told = set()
        for first, second in ((0, 0), (0, 1), (1, 0), (1, 1), (2, 0), (2, 1)):
            found = ask(*HELD, work(0), deliver(first), deliver(second), deliver(0), work(1), work(2), work(3), wire())
            told.add(tuple(found[-1]))
        self.assertEqual(told, {(0, 1, 0, 3, 1, 0, -5, 2, 0, 1, 1, 1, 2, 0, 7, 1, 0, 3, 0, 2, 1, 2, 3)})


if __name__ == "__main__":
    unittest.main()
