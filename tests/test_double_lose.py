"""Points 9 and 10: the calls double and lose."""

import unittest

from tests.helper import (
    GREATEST, ask, deliver, double, forget, full_wire, knows, last, lose, resend, status, wire, work, work_all,
)
from tests.test_wire import FIRST, HELD, SECOND, THIRD

SENT = [*HELD, work(0)]


class Double(unittest.TestCase):
    def test_a_message_just_like_it_stands_behind_the_others(self):
        for number, message in enumerate((FIRST, SECOND, THIRD)):
            found = ask(*SENT, double(number), wire())
            self.assertEqual(found[7:], [[0], [0] + FIRST + SECOND + THIRD + message])

    def test_one_message_alone(self):
        found = ask(*HELD, work(0), lose(0), lose(0), double(0), wire(), double(1), wire())
        self.assertEqual(found[9:], [[0], [0] + THIRD * 2, [0], [0] + THIRD * 3])

    def test_a_doubled_one_is_doubled_again(self):
        found = ask(*SENT, double(1), double(3), double(4), double(0), wire())
        self.assertEqual(found[-1], [0] + FIRST + SECOND + THIRD + SECOND * 3 + FIRST)

    def test_a_doubled_one_is_delivered(self):
        found = ask(*SENT, double(0), deliver(3), work(2), deliver(0), work(2), wire())
        self.assertEqual(found[8:], [
            [0, 2, 1, 0, 1], [0, 1, 1], [0, 2, 1, 0, 0], [0, 0, 0],
            [0] + SECOND + THIRD + [2, 0, 1, 1, 1, 2, 0, 7, 1, 0]])

    def test_a_doubled_one_is_lost(self):
        found = ask(*SENT, double(1), lose(3), wire(), double(1), lose(1), wire(), deliver(2), work(3))
        self.assertEqual(found[8:], [
            [0], [0] + FIRST + SECOND + THIRD, [0], [0], [0] + FIRST + THIRD + SECOND, [0, 3, 2, 0, 1], [0, 1, 1]])

    def test_nobody_knows_anything_more(self):
        asked = [knows(worker, node, 0) for worker in range(4) for node in range(4)]
        before = ask(*SENT, *asked)[7:]
        self.assertEqual(ask(*SENT, double(0), double(1), double(2), *asked)[10:], before)
        self.assertEqual(ask(*SENT, double(0), double(1), double(2), work(0), work(1), work(2), work(3))[10:],
                         [[0, 0, 0]] * 4)

    def test_no_such_message(self):
        for number in (-1, -2, -3, -4, 3, 4, GREATEST, -GREATEST):
            found = ask(*SENT, double(number), wire(), status())
            self.assertEqual(found[7:], [[-16], [0] + FIRST + SECOND + THIRD, [0, 4, 0, 3, 3]], number)

    def test_no_message_on_the_wire(self):
        for number in (0, -1, 1, GREATEST, -GREATEST):
            self.assertEqual(last(*HELD, double(number)), [-16])
            self.assertEqual(last(*HELD, work_all(), double(number)), [-16])

    def test_just_five_hundred_messages_and_one_more(self):
        held = full_wire()
        for number in (0, 7, 499):
            found = ask(*held, double(number), double(number), double(0), double(500), status())
            self.assertEqual(found[len(held):], [[0], [-15], [-15], [-15], [0, 5, 0, 501, 501]])

    def test_no_such_message_comes_before_a_full_wire(self):
        held = [*full_wire(), double(0)]
        numbers = (-1, 501, 502, -501, GREATEST, -GREATEST)
        self.assertEqual(ask(*held, *[double(number) for number in numbers])[len(held):], [[-16]] * len(numbers))

    def test_much_more_than_five_hundred_messages(self):
        held = [*full_wire(), forget(0), work(0)]
        found = ask(*held, status(), double(0), double(519), double(520), double(-1))
        self.assertEqual(found[len(held):], [[0, 5, 0, 520, 520], [-15], [-15], [-16], [-16]])

    def test_done_again_when_there_is_room_again(self):
        held = [*full_wire(), double(0)]
        found = ask(*held, double(0), lose(3), double(0), double(0), deliver(5), double(0), double(0), status())
        self.assertEqual(found[len(held):], [
            [-15], [0], [0], [-15], [0, 2, 4, 2, 1], [0], [-15], [0, 5, 0, 501, 503]])

    def test_a_refused_double_changes_nothing(self):
        held = [*full_wire(), double(0)]
        found = ask(*held, wire(), status(), double(3), double(501), double(-1), status(), wire())[len(held):]
        self.assertEqual(found[2:5], [[-15], [-16], [-16]])
        self.assertEqual(found[:2], [found[6], found[5]])


class Lose(unittest.TestCase):
    def test_the_others_keep_their_order_and_move_up(self):
        self.assertEqual(ask(*SENT, lose(0), wire())[7:], [[0], [0] + SECOND + THIRD])
        self.assertEqual(ask(*SENT, lose(1), wire())[7:], [[0], [0] + FIRST + THIRD])
        self.assertEqual(ask(*SENT, lose(2), wire())[7:], [[0], [0] + FIRST + SECOND])

    def test_one_behind_another(self):
        found = ask(*SENT, lose(1), lose(1), wire(), deliver(0), lose(0), wire())
        self.assertEqual(found[7:], [[0], [0], [0] + FIRST, [0, 2, 1, 0, 1], [-16], [0]])

    def test_nobody_knows_anything_more_and_nobody_less(self):
        asked = [knows(worker, node, 0) for worker in range(4) for node in range(4)]
        before = ask(*SENT, deliver(2), *asked)[8:]
        self.assertEqual(ask(*SENT, deliver(2), lose(1), lose(0), *asked)[10:], before)
        self.assertEqual(ask(*SENT, lose(0), lose(0), lose(0), work(1), work(2), work(3))[10:], [[0, 0, 0]] * 3)

    def test_what_is_lost_does_not_come_again_by_itself(self):
        found = ask(*SENT, lose(0), work(0), work_all(), knows(2, 1, 0), knows(0, 1, 0), knows(0, 0, 0), status())
        self.assertEqual(found[8:], [
            [0, 0, 0], [0, 2, 4], [1], [0, 1, 2, 0, 7, 1, 0], [1], [0, 2, 0, 0, 5]])

    def test_what_is_lost_can_be_sent_again(self):
        found = ask(*SENT, lose(0), lose(0), lose(0), resend(0), wire())
        self.assertEqual(found[10:], [[0, 3], [0] + FIRST + SECOND + THIRD])

    def test_one_of_two_alike(self):
        found = ask(*SENT, double(0), lose(0), wire(), deliver(2))
        self.assertEqual(found[8:], [[0], [0] + SECOND + THIRD + FIRST, [0, 2, 1, 0, 1]])

    def test_no_such_message(self):
        for number in (-1, -2, -3, -4, 3, 4, GREATEST, -GREATEST):
            found = ask(*SENT, lose(number), wire(), status())
            self.assertEqual(found[7:], [[-16], [0] + FIRST + SECOND + THIRD, [0, 4, 0, 3, 3]], number)

    def test_no_message_on_the_wire(self):
        for number in (0, -1, 1, GREATEST, -GREATEST):
            self.assertEqual(last(*HELD, lose(number)), [-16])
            self.assertEqual(last(*SENT, lose(0), lose(0), lose(0), lose(number)), [-16])

    def test_a_full_wire_hinders_nothing(self):
        held = [*full_wire(), double(0)]
        found = ask(*held, lose(500), lose(500), lose(0), lose(499), lose(498), status())
        self.assertEqual(found[len(held):], [[0], [-16], [0], [-16], [0], [0, 5, 0, 498, 501]])


if __name__ == "__main__":
    unittest.main()
