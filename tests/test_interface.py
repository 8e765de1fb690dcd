"""How the calls are handed in, and how the answers are given back."""

import builtins
import io
import sys
import unittest
from contextlib import redirect_stderr, redirect_stdout
from unittest import mock

import treeworkers.desk
from tests.helper import (
    EXAMPLE, GREATEST, SMALL, ask, begin, cut, deliver, double, forget, full_wire, grammar, home, knows, lose, parted,
    resend, status, tree, wire, work, work_all,
)
from treeworkers.desk import answers

EVERY_CALL = (grammar(SMALL) + tree("top(lit 3)") + cut(1) + begin() + home(1, 0) + work(0, 5) + wire() + deliver(0)
              + work(1, 5) + wire() + deliver(0) + work(0, 5) + deliver(0) + resend(1) + double(0) + lose(0) + status()
              + knows(0, 1, 1) + forget(0) + knows(0, 1, 1) + status() + work_all() + knows(0, 1, 1))
EVERY_ANSWER = [3, 0, 2, 2, 3, 0, 2, 3, 2, 0, 1, 3, 0, 0, 1, 3, 0, 0, 1, 3, 0, 1, 1, 7, 0, 0, 1, 1, 0, 0, 4,
                5, 0, 1, 1, 0, 1, 3, 0, 1, 1, 7, 0, 1, 0, 1, 1, 0, 7, 5, 0, 0, 1, 1, 1, 3, 0, 1, 0, 1, -16,
                2, 0, 1, 1, 0, 1, 0, 5, 0, 0, 0, 1, 4, 3, 0, 0, 7, 2, 0, 3, 1, 1, 5, 0, 2, 1, 1, 4, 3, 0, 2, 2, 3, 0, 0, 7]

# Calls that need the work to have begun, each with numbers that are there and with some that are not.
WORKING_CALLS = [
    home(0, 0), home(-1, 9), work(0, 1), work(-1, -1), wire(), deliver(0), deliver(-1), double(0), double(-1), lose(0),
    lose(GREATEST), forget(0), forget(-GREATEST), resend(0), resend(8), work_all(), knows(0, 0, 0), knows(-1, 0, 0),
    knows(0, -1, 0), knows(0, 0, -1), status()]


class Watched(list):
    """A list that tells when anything in it is changed, if only for a while."""

    def refuse(self, *given):
        raise AssertionError("the list that was handed in is changed")

    append = extend = insert = pop = remove = clear = sort = reverse = refuse
    __setitem__ = __delitem__ = __iadd__ = __imul__ = refuse


class Interface(unittest.TestCase):
    def test_counts_stand_before_the_answers(self):
        self.assertEqual(answers(list(EVERY_CALL)), EVERY_ANSWER)

    def test_a_refusal_is_one_number_alone(self):
        self.assertEqual(answers([3, 2, 5, 6, 1, 0, 0, 0, 4, 0, 0]), [1, -5, 1, -5, 1, -6, 1, -3, 1, -2, 1, -6])

    def test_each_call_alone(self):
        for call, answer in (([0, 0], -2), ([1, 0], -3), ([2, 0], -5), ([3], -5), ([4, 0, 0], -6), ([5, 0, 0], -6),
                             ([6], -6), ([7, 0], -6), ([8, 0], -6), ([9, 0], -6), ([10, 0], -6), ([11, 0], -6),
                             ([12], -6), ([13, 0, 0, 0], -6), ([14], -6), ([0, 2, 65, 65], -2), ([1, 2, 65, 65], -3)):
            self.assertEqual(answers(call), [1, answer], call)

    def test_numbers_of_texts_are_no_calls(self):
        # The bytes of this text look like calls.
        self.assertEqual(answers([0, 4, 3, 3, 6, 7, 3]), [1, -2, 1, -5])

    def test_only_whole_numbers_in_a_list(self):
        given = answers(list(EVERY_CALL))
        self.assertIs(type(given), list)
        self.assertEqual({type(number) for number in given}, {int})
        text = "S > r; E d > v; top S: E { r = 1.v; 1.d = 1; } leaf E: { v = [1 < 2, d = 1, !d, has([d], 1), d & 1]; }"
        calls = grammar(text) + tree("top(leaf)") + cut(1) + begin() + work(0) + wire() + deliver(0) + work(1) + wire()
        self.assertEqual({type(number) for number in answers(calls)}, {int})

    def test_the_list_is_the_same_afterwards(self):
        calls = list(EVERY_CALL)
        answers(calls)
        self.assertEqual(calls, EVERY_CALL)

    def test_the_list_is_not_changed_for_a_while_either(self):
        self.assertEqual(answers(Watched(EVERY_CALL)), EVERY_ANSWER)

    def test_the_same_list_twice(self):
        calls = list(EVERY_CALL)
        first = answers(calls)
        second = answers(calls)
        self.assertEqual(first, second)
        self.assertIsNot(first, second)

    def test_what_is_given_back_is_not_kept(self):
        first = answers(list(EVERY_CALL))
        first.clear()
        self.assertEqual(answers(list(EVERY_CALL)), EVERY_ANSWER)

    def test_nothing_is_kept_from_one_time_to_the_next(self):
        answers(list(EVERY_CALL))
        self.assertEqual(answers([6]), [1, -6])
        self.assertEqual(answers([3]), [1, -5])
        self.assertEqual(answers(tree("top(lit 3)")), [1, -3])
        ask(grammar(EXAMPLE))
        self.assertEqual(answers(tree("top(lit 3)")), [1, -3])

    def test_nothing_is_printed_or_read(self):
        out, err = io.StringIO(), io.StringIO()
        with redirect_stdout(out), redirect_stderr(err):
            with mock.patch.object(builtins, "open", side_effect=AssertionError), \
                    mock.patch.object(builtins, "input", side_effect=AssertionError), \
                    mock.patch.object(builtins, "__import__", side_effect=AssertionError):
                given = answers(list(EVERY_CALL))
        self.assertEqual(given, EVERY_ANSWER)
        self.assertEqual((out.getvalue(), err.getvalue()), ("", ""))

    def test_the_name_and_the_arguments(self):
        self.assertEqual(answers(calls=[3]), [1, -5])
        self.assertIs(treeworkers.desk.answers, answers)

    def test_four_hundred_calls(self):
        self.assertEqual(answers([3] * 400), [1, -5] * 400)
        calls = grammar(SMALL) + tree("top(lit 3)") + begin() + [6] * 397
        self.assertEqual(answers(calls)[12:], [1, 0] * 397)

    def test_four_hundred_calls_of_every_kind(self):
        held = [*full_wire(), double(3)]
        turns = [double(0), lose(0), resend(0), forget(1), knows(0, 2, 0), status(), deliver(0), lose(100), home(2, 0),
                 work(0, 1), cut(1), begin()]
        given = ask(*held, *turns * 30, *[work_all()] * 6)
        self.assertEqual(len(given), 400)
        # Each dozen takes three messages off, till there is room for twenty sent again.
        self.assertEqual(given[len(held):len(held) + 12], [
            [-15], [0], [0, 20], [0, 0], [0, 0, 1], [0, 5, 0, 520, 521], [0, 1, 2, 1, 1], [0], [0, 0, 1], [-15], [-9],
            [-9]])
        self.assertEqual(given[-5:], [[0, 0, 0]] * 5)
        calls = [number for call in held + turns * 30 + [work_all()] * 6 for number in call]
        kept = list(calls)
        first = answers(calls)
        self.assertEqual(calls, kept)
        self.assertEqual(parted(first), given)
        self.assertEqual(answers(calls), first)
        self.assertEqual(answers(Watched(calls)), first)

    def test_long_answers(self):
        text = """S > v; E d > v; F > v; top S: F { v = 1.v; } f F: E F { v = 1.v + 2.v; 1.d = %s; } g F: { v = 1; }
                  leaf E: { v = d; }""" % ("[" + ", ".join(["[]"] * 59) + "]")
        leaves = [2, 4, 6, 8, 10, 12, 14]
        cuts = [number for node in leaves for number in cut(node)]
        calls = grammar(text) + tree("top(" + "f(leaf," * 7 + "g" + ")" * 7 + ")") + cuts + begin() + work(0)
        told = [0]
        for worker, node in enumerate(leaves, start=1):
            told += [0, worker, node, 0, 1, 59] + [1, 0] * 59
        given = answers(calls + wire() * 389)
        # Not assertEqual, which takes very long to tell how such lists differ.
        self.assertTrue(given[-389 * (len(told) + 1):] == ([len(told)] + told) * 389)


class NotBegun(unittest.TestCase):
    def check(self, *calls):
        """Each call alone behind these, and all of them one behind another."""
        for call in WORKING_CALLS:
            self.assertEqual(ask(*calls, call)[-1], [-6], call)
        self.assertEqual(ask(*calls, *WORKING_CALLS)[len(calls):], [[-6]] * len(WORKING_CALLS))

    def test_ahead_of_begin(self):
        self.check()
        self.check(grammar("x"))
        self.check(grammar(SMALL))
        self.check(grammar(SMALL), tree("x"))
        self.check(grammar(SMALL), tree("top(lit 3)"))
        self.check(grammar(SMALL), tree("top(lit 3)"), cut(1))

    def test_behind_a_new_grammar(self):
        held = [grammar(SMALL), tree("top(lit 3)"), cut(1), begin(), work(0), double(0)]
        self.check(*held, grammar(SMALL))
        self.check(*held, grammar(EXAMPLE), begin())
        self.check(*held, grammar(SMALL), tree("top(lit 3)"))

    def test_behind_a_new_tree(self):
        held = [grammar(SMALL), tree("top(lit 3)"), cut(1), begin(), work(0), double(0)]
        self.check(*held, tree("lit 3"))
        self.check(*held, tree("top(lit 3)"), cut(1))

    def test_refused_calls_do_not_end_the_work(self):
        found = ask(grammar(SMALL), tree("top(lit 3)"), cut(1), begin(), work(0), grammar("x"), tree("x"), begin(),
                    grammar([32] * 3001), tree([32] * 3001), wire(), status())
        self.assertEqual(found[5:], [[-2], [-4], [-9], [-1], [-1], [0, 0, 1, 1, 0, 0, 4], [0, 2, 0, 1, 1]])

    def test_begun_anew_nobody_knows_anything(self):
        asked = [knows(worker, node, 0) for worker in (0, 1) for node in (0, 1)] + [wire(), status()]
        again = [tree("top(lit 3)"), cut(1), begin()]
        found = ask(grammar(SMALL), *again, work(0), double(0), deliver(0), *again, *asked)
        self.assertEqual(found[-6:], [[1]] * 4 + [[0], [0, 3, 1, 0, 0]])
        self.assertEqual(ask(grammar(SMALL), *again, work_all(), *again, work_all())[-1], [0, 3, 2])


class Refused(unittest.TestCase):
    def snapshot(self, *calls):
        """What can be asked behind these calls."""
        asked = [wire(), status()] + [knows(worker, node, attribute) for worker in range(6) for node in (2, 3, 10, 11)
                                      for attribute in range(4 if node in (2, 10) else 1)]
        return ask(*calls, *asked)[len(calls):]

    def test_a_refused_call_changes_nothing(self):
        held = [*full_wire(), double(0), deliver(3), double(7), forget(2)]
        before = self.snapshot(*held)
        refused = [
            (grammar("x"), -2), (tree("x"), -4), (cut(1), -9), (begin(), -9), (home(12, 0), -10), (home(1, 4), -12),
            (work(6, 1), -13), (work(0, -1), -14), (work(0, 1), -15), (deliver(501), -16), (double(501), -16),
            (double(0), -15), (lose(-1), -16), (forget(6), -13), (forget(-1), -13), (resend(6), -13), (resend(0), -15),
            (knows(6, 0, 0), -13), (knows(0, 12, 0), -10), (knows(0, 2, 4), -12)]
        for call, number in refused:
            self.assertEqual(ask(*held, call)[-1], [number], call)
            self.assertEqual(self.snapshot(*held, call), before, call)
        self.assertEqual(self.snapshot(*held, *[call for call, number in refused]), before)


class Nesting(unittest.TestCase):
    def test_what_is_nested_most_takes_few_calls_within_one_another(self):
        operators = "0|1&2=1+1*"
        deep = operators * 3 + "len(" * 29 + "[]" + ")" * 29
        text = "S > v; E d > v; top S: E { v = 1.v; 1.d = %s; } leaf E: { v = %s; }" % (
            "-" * 30 + "1" + "+1" * 14, deep)
        calls = grammar(text) + tree("top(leaf)") + cut(1) + begin() + work(0) + work(1) + wire()
        frame, depth = sys._getframe(), 0
        while frame is not None:
            frame, depth = frame.f_back, depth + 1
        limit = sys.getrecursionlimit()
        sys.setrecursionlimit(depth + 300)
        try:
            given = answers(calls)
        finally:
            sys.setrecursionlimit(limit)
        self.assertEqual(given, [3, 0, 2, 2, 3, 0, 2, 3, 2, 0, 1, 3, 0, 0, 1, 3, 0, 1, 0, 3, 0, 1, 1, 7, 0, 1, 0, 1, 1, 2, 1])


if __name__ == "__main__":
    unittest.main()
