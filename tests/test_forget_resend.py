"""Points 11 and 12: the calls forget and resend."""

import unittest

from tests.helper import (
    GREATEST, ask, begin, cut, deliver, double, forget, full_wire, grammar, knows, last, lose, resend, status, tree, wire,
    work, work_all,
)
from tests.test_work import HELD

# The messages that are sent in the tree of HELD, in the order of instances.
TO_ONE_D = [0, 1, 2, 0, 0, 2]
TO_ONE_X = [0, 1, 2, 1, 0, 4]
FROM_ONE = [1, 0, 2, 2, 0, 5]
TO_TWO_D = [0, 2, 3, 0, 0, 3]
TO_TWO_X = [0, 2, 3, 1, 0, 1]
FROM_TWO_V = [2, 0, 3, 2, 0, 3]
FROM_TWO_W = [2, 0, 3, 3, 0, 4]

SENT = [*HELD, work(0)]
DONE = [*HELD, work_all()]


class Forget(unittest.TestCase):
    def test_how_many_it_knew_and_nothing_the_second_time(self):
        self.assertEqual(ask(*SENT, forget(0), forget(0), forget(0))[6:], [[0, 7], [0, 0], [0, 0]])
        self.assertEqual(ask(*DONE, forget(0), forget(1), forget(2), forget(1))[6:],
                         [[0, 13], [0, 4], [0, 4], [0, 0]])

    def test_right_behind_begin(self):
        self.assertEqual(ask(*HELD, forget(2), forget(0), forget(1))[5:], [[0, 0]] * 3)

    def test_what_was_delivered_counts_too(self):
        found = ask(*SENT, deliver(1), forget(2), deliver(1), forget(2), deliver(0), work(1), forget(1), forget(2))
        self.assertEqual(found[7:], [[0, 1], [0, 2, 3, 1, 1], [0, 1], [0, 1, 2, 0, 1], [0, 1, 0], [0, 2], [0, 0]])

    def test_what_was_delivered_twice_counts_once(self):
        self.assertEqual(ask(*SENT, double(1), deliver(1), deliver(2), forget(2))[7:],
                         [[0, 2, 3, 0, 1], [0, 2, 3, 0, 0], [0, 1]])

    def test_it_knows_nothing_any_more_and_the_others_what_they_knew(self):
        asked = [knows(worker, node, attribute) for worker in (0, 1, 2)
                 for node, count in enumerate((2, 4, 4, 4)) for attribute in range(count)]
        before = ask(*DONE, *asked)[6:]
        for worker in (0, 1, 2):
            kept = [[1] if call[1] == worker else answer for call, answer in zip(asked, before)]
            self.assertNotEqual(kept, before)
            self.assertEqual(ask(*DONE, forget(worker), *asked)[7:], kept)

    def test_the_wire_stays_as_it_is(self):
        told = [0] + TO_ONE_D + TO_TWO_D + TO_TWO_X
        found = ask(*SENT, wire(), forget(0), wire(), forget(1), wire(), status())
        self.assertEqual(found[6:], [told, [0, 7], told, [0, 0], told, [0, 14, 1, 3, 3]])

    def test_what_it_knew_is_worked_out_and_sent_again(self):
        told = TO_ONE_D + TO_TWO_D + TO_TWO_X
        found = ask(*SENT, forget(0), work(0, 4), work(0, 1), wire(), work(0), wire(), work(0), status())
        self.assertEqual(found[7:], [
            [0, 4, 0], [0, 1, 1], [0] + told + TO_ONE_D, [0, 2, 2], [0] + told + told, [0, 0, 0], [0, 7, 0, 6, 6]])

    def test_what_is_ready_at_another_worker_is_left_to_it(self):
        # Worker 2 knows d at node 3 already when worker 0 works it out again.
        found = ask(*SENT, deliver(1), forget(0), status(), work(0), status(), knows(2, 3, 3), work(2), knows(2, 3, 3))
        self.assertEqual(found[7:], [
            [0, 7], [0, 14, 2, 2, 3], [0, 7, 3], [0, 7, 1, 5, 6], [1], [0, 1, 1], [0, 0, 4]])

    def test_a_message_that_was_on_the_way_is_known_again(self):
        found = ask(*SENT, deliver(0), work(1), forget(1), work(1), lose(0), resend(0), deliver(1), work(1))
        self.assertEqual(found[7:], [
            [0, 1, 0], [0, 2], [0, 0, 0], [0], [0, 3], [0, 1, 2, 0, 1], [0, 1, 0]])

    def test_what_was_sent_to_it_does_not_come_again_by_itself(self):
        found = ask(*DONE, forget(1), work_all(), status(), knows(1, 2, 0), resend(0), work_all(), status(),
                    knows(1, 2, 0))
        self.assertEqual(found[7:], [
            [0, 0, 0], [0, 2, 0, 0, 7], [1], [0, 4], [0, 2, 5], [0, 0, 0, 0, 12], [0, 0, 2]])

    def test_no_such_worker(self):
        for worker in (-1, -2, -3, 3, 4, GREATEST, -GREATEST):
            found = ask(*SENT, status(), forget(worker), status(), forget(0))
            self.assertEqual(found[6:], [[0, 7, 0, 3, 3], [-13], [0, 7, 0, 3, 3], [0, 7]], worker)

    def test_a_full_wire_hinders_nothing(self):
        held = [*full_wire(), double(0)]
        self.assertEqual(ask(*held, forget(0), forget(5), forget(6))[len(held):], [[0, 20], [0, 0], [-13]])


class Resend(unittest.TestCase):
    def test_behind_the_others(self):
        told = TO_ONE_D + TO_TWO_D + TO_TWO_X
        self.assertEqual(ask(*SENT, resend(0), wire())[6:], [[0, 3], [0] + told + told])
        self.assertEqual(ask(*SENT, deliver(1), resend(0), wire())[7:], [[0, 3], [0] + TO_ONE_D + TO_TWO_X + told])

    def test_again_and_again(self):
        told = TO_ONE_D + TO_TWO_D + TO_TWO_X
        self.assertEqual(ask(*SENT, resend(0), resend(0), resend(0), wire())[8:], [[0, 3], [0] + told * 4])

    def test_every_worker_what_it_is_home_of(self):
        found = ask(*DONE, resend(0), wire(), resend(2), resend(1), wire(), status())
        told = [0] + TO_ONE_D + TO_ONE_X + TO_TWO_D + TO_TWO_X
        self.assertEqual(found[6:], [
            [0, 4], told, [0, 2], [0, 1], told + FROM_TWO_V + FROM_TWO_W + FROM_ONE, [0, 0, 0, 7, 14]])

    def test_in_the_order_of_instances_not_of_working_out(self):
        text = """S > v; E d > v; top S: E E E { v = 1.v + 2.v + 3.v; 1.d = 3.d + 10; 2.d = [5]; 3.d = 1 / 0; }
                  leaf E: { v = d; }"""
        held = [grammar(text), tree("top(leaf, leaf, leaf)"), cut(3), cut(2), cut(1), begin(), work(0)]
        first, second, third = [0, 3, 1, 0, 2, 3], [0, 2, 2, 0, 1, 1, 0, 5], [0, 1, 3, 0, 2, 3]
        self.assertEqual(ask(*held, wire(), resend(0), wire())[7:], [
            [0] + second + third + first, [0, 3], [0] + second + third + first + first + second + third])

    def test_more_than_ten_instances(self):
        held = full_wire()[:9]
        told = last(*held, wire())
        self.assertEqual(ask(*held, *[lose(0)] * 20, wire(), resend(0), wire())[-3:], [[0], [0, 20], told])
        self.assertEqual([told[spot + 5] for spot in range(1, len(told), 6)], list(range(1, 21)))

    def test_only_what_it_knows(self):
        found = ask(*HELD, resend(0), work(0, 4), resend(0), work(0, 1), resend(0), wire(), forget(0), resend(0), wire())
        self.assertEqual(found[5:], [
            [0, 0], [0, 4, 0], [0, 0], [0, 1, 1], [0, 1], [0] + TO_ONE_D * 2, [0, 5], [0, 0], [0] + TO_ONE_D * 2])

    def test_what_it_knows_by_delivery_alone_is_not_sent(self):
        found = ask(*SENT, deliver(0), deliver(0), resend(1), resend(2), wire(), status())
        self.assertEqual(found[8:], [[0, 0], [0, 0], [0] + TO_TWO_X, [0, 7, 2, 1, 3]])

    def test_what_has_no_receiver_is_not_sent(self):
        # Worker 1 knows w at node 2, which nobody else needs.
        found = ask(*SENT, deliver(0), work(1), knows(1, 2, 3), resend(1))
        self.assertEqual(found[7:], [[0, 1, 0], [0, 0, 3], [0, 0]])
        self.assertEqual(ask(grammar("S > v; p S: { v = 1; }"), tree("p"), begin(), work(0), resend(0), wire())[4:],
                         [[0, 0], [0]])

    def test_what_was_sent_again_is_delivered(self):
        found = ask(*SENT, lose(0), lose(0), lose(0), resend(0), deliver(1), deliver(0), work(2), work(1), wire())
        self.assertEqual(found[9:], [
            [0, 3], [0, 2, 3, 0, 1], [0, 1, 2, 0, 1], [0, 1, 1], [0, 1, 0], [0] + TO_TWO_X + FROM_TWO_W])

    def test_nobody_knows_anything_more_or_less(self):
        asked = [knows(worker, node, attribute) for worker in (0, 1, 2)
                 for node, count in enumerate((2, 4, 4, 4)) for attribute in range(count)]
        held = [*SENT, deliver(1), work(2)]
        self.assertEqual(ask(*held, resend(0), resend(1), resend(2), *asked)[11:], ask(*held, *asked)[8:])

    def test_no_such_worker(self):
        for worker in (-1, -2, -3, 3, 4, GREATEST, -GREATEST):
            found = ask(*SENT, resend(worker), status())
            self.assertEqual(found[6:], [[-13], [0, 7, 0, 3, 3]], worker)

    def test_just_five_hundred_messages_and_one_more(self):
        held = full_wire()
        self.assertEqual(ask(*held, resend(0), resend(0), status())[len(held):], [[0, 20], [-15], [0, 5, 0, 520, 520]])
        self.assertEqual(ask(*held, double(0), resend(0), status())[len(held):], [[0], [-15], [0, 5, 0, 501, 501]])
        self.assertEqual(ask(*held, resend(1), double(0), resend(1), lose(0), resend(1))[len(held):],
                         [[0, 0], [0], [-15], [0], [0, 0]])

    def test_no_such_worker_comes_before_a_full_wire(self):
        held = [*full_wire(), double(0)]
        workers = (-1, 6, 7, -6, GREATEST, -GREATEST)
        self.assertEqual(ask(*held, *[resend(worker) for worker in workers])[len(held):], [[-13]] * len(workers))

    def test_a_refused_resend_changes_nothing(self):
        held = [*full_wire(), double(0)]
        found = ask(*held, wire(), status(), resend(0), resend(5), resend(6), status(), wire())[len(held):]
        self.assertEqual(found[2:5], [[-15], [-15], [-13]])
        self.assertEqual(found[:2], [found[6], found[5]])


if __name__ == "__main__":
    unittest.main()
