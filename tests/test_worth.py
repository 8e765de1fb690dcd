"""What expressions are worth, as the messages of point 7 tell it."""

import math
import unittest
from fractions import Fraction

from tests.helper import outcome

MOST = 999999999999999999

# Faults stand as tuples beside values, which are numbers and lists.
KIND, RANGE, NOUGHT, PLACE, LARGE = (2, 1), (2, 2), (2, 3), (2, 4), (2, 5)

# One expression of each fault.
FAULTY = {"(1 + [])": KIND, "(%d + 1)" % MOST: RANGE, "(1 / 0)": NOUGHT, "at([], 0)": PLACE,
          "[" * 21 + "]" * 21: LARGE}


def flat(value):
    if isinstance(value, int):
        return [0, value]
    row = [1, len(value)]
    for member in value:
        row += flat(member)
    return row


class Worth(unittest.TestCase):
    def check(self, expression, value, given="0", own="7"):
        wanted = list(value) if isinstance(value, tuple) else flat(value)
        self.assertEqual(outcome(expression, given, own), wanted, expression)

    def check_all(self, wanted, given="0"):
        for expression, value in wanted.items():
            self.check(expression, value, given)


class Examples(Worth):
    def test_the_examples_of_the_document(self):
        given = "[[1, 5], 3, [1, 6]]"
        self.check_all({
            "look(d, 1, 0)": 5, "at(d, 3)": PLACE, "d + 1 / 0": NOUGHT, "d / 0": KIND, "0 & d + 1": 0,
            "-7 / 2": -4, "-7 % 2": 1, "7 % -2": -1}, given)

    def test_numbers_own_numbers_and_occurrences(self):
        self.check("42", 42)
        self.check("#", -5, own="-5")
        self.check("#", 0, own="-0")
        self.check("d", [1, [2], []], given="[1, [2], []]")
        self.check("d", NOUGHT, given="1 / 0")
        self.check("#", -MOST, own="-" + str(MOST))


class Numbers(Worth):
    def test_sums_differences_products(self):
        self.check_all({"2 + 3": 5, "2 - 3": -1, "2 * 3": 6, "-2 * 3": -6, "-2 * -3": 6, "0 * 5": 0, "-5": -5,
                        "-0": 0, "-(-5)": 5, "2 - -3": 5, "-2 + -3": -5, "3 - 3": 0})

    def test_the_range(self):
        top = str(MOST)
        self.check_all({
            top: MOST, "-" + top: -MOST, top + " + 0": MOST, top + " + 1": RANGE, "-" + top + " - 0": -MOST,
            "-" + top + " - 1": RANGE, "-" + top + " + -1": RANGE, top + " - -1": RANGE, top + " + " + top: RANGE,
            "-" + top + " + " + top: 0, top + " - " + top: 0, "-(-" + top + ")": MOST,
            "999999999999999998 + 1": MOST, "-999999999999999998 - 1": -MOST,
            "999999999 * 1000000001": MOST, "-999999999 * 1000000001": -MOST, "1000000000 * 1000000000": RANGE,
            "-1000000000 * 1000000000": RANGE, top + " * " + top: RANGE, top + " * 2": RANGE, top + " * -1": -MOST,
            top + " / -1": -MOST, "-" + top + " / -1": MOST, "-" + top + " / 1": -MOST, top + " + 1 - 1": RANGE})

    def test_quotients_and_remainders(self):
        for left in (-8, -7, -6, -1, 0, 1, 6, 7, 8, MOST, -MOST):
            for right in (-MOST, -8, -3, -2, -1, 1, 2, 3, 8, MOST):
                greatest = math.floor(Fraction(left, right))
                self.check("# / (%d)" % right, greatest, own=str(left))
                self.check("# %% (%d)" % right, left - right * greatest, own=str(left))

    def test_division_by_nought(self):
        self.check_all({"1 / 0": NOUGHT, "0 / 0": NOUGHT, "1 % 0": NOUGHT, "0 % 0": NOUGHT, "-1 / 0": NOUGHT,
                        "1 / (1 - 1)": NOUGHT, "0 / 1": 0, "0 % 1": 0})

    def test_opposites_and_comparisons(self):
        self.check_all({"!0": 1, "!1": 0, "!2": 0, "!-1": 0, "!!5": 1, "1 < 2": 1, "2 < 1": 0, "2 < 2": 0,
                        "-2 < -1": 1, "-1 < 0": 1, "max(1, 2)": 2, "max(2, 1)": 2, "max(-1, -2)": -1, "max(3, 3)": 3,
                        "min(1, 2)": 1, "min(2, 1)": 1, "min(-1, -2)": -2, "min(3, 3)": 3})

    def test_numbers_alone(self):
        for shape in ("-%s", "!%s"):
            self.check(shape % "[]", KIND)
            self.check(shape % "[1]", KIND)
        for shape in ("%s + %s", "%s - %s", "%s * %s", "%s / %s", "%s %% %s", "%s < %s", "max(%s, %s)", "min(%s, %s)"):
            for pair in (("[]", "1"), ("1", "[]"), ("[1]", "[1]"), ("[]", "0"), ("0", "[0]")):
                self.check(shape % pair, KIND)


class Truth(Worth):
    def test_if(self):
        self.check_all({
            "if 1 then 5 else 6": 5, "if 0 then 5 else 6": 6, "if -1 then 5 else 6": 5, "if 2 then 5 else 6": 5,
            "if [] then 5 else 6": KIND, "if [0] then 5 else 6": KIND, "if 1 / 0 then 5 else 6": NOUGHT,
            "if at([], 0) then 5 else 6": PLACE, "if 1 then [] else 6": [], "if 0 then 5 else [[]]": [[]]})

    def test_what_is_not_taken_does_not_matter(self):
        self.check_all({
            "if 1 then 5 else 1 / 0": 5, "if 0 then 1 / 0 else 6": 6, "if 1 then 1 / 0 else 6": NOUGHT,
            "if 0 then 5 else 1 / 0": NOUGHT, "if d then 5 else d": 5}, given="3")
        self.check("if 1 then 5 else d", 5, given="1 / 0")
        self.check("if 0 then d else 6", 6, given="[]")

    def test_both(self):
        self.check_all({
            "0 & 0": 0, "0 & 1": 0, "1 & 0": 0, "1 & 1": 1, "5 & 7": 1, "-1 & 2": 1, "5 & 0": 0, "0 & 5": 0,
            "0 & 1 / 0": 0, "0 & []": 0, "1 & 1 / 0": NOUGHT, "1 & []": KIND, "[] & 0": KIND, "[] & 1": KIND,
            "1 / 0 & 0": NOUGHT, "1 / 0 & []": NOUGHT, "[] & 1 / 0": KIND, "at([], 0) & 1 / 0": PLACE})

    def test_choice(self):
        self.check_all({
            "0 | 0": 0, "0 | 1": 1, "1 | 0": 1, "1 | 1": 1, "5 | 7": 1, "0 | -7": 1, "5 | 0": 1, "0 | 5": 1,
            "1 | 1 / 0": 1, "5 | []": 1, "0 | 1 / 0": NOUGHT, "0 | []": KIND, "[] | 1": KIND, "[] | 0": KIND,
            "1 / 0 | 1": NOUGHT, "1 / 0 | []": NOUGHT, "[] | 1 / 0": KIND, "at([], 0) | 1 / 0": PLACE})


class Lists(Worth):
    def test_written_lists(self):
        self.check_all({"[]": [], "[1]": [1], "[1, 2, 3]": [1, 2, 3], "[[], [1, []], -2]": [[], [1, []], -2],
                        "[1 + 1, d, d]": [2, [4], [4]]}, given="[4]")

    def test_equality(self):
        self.check_all({
            "1 = 1": 1, "1 = 2": 0, "[] = []": 1, "[] = 0": 0, "0 = []": 0, "[1] = 1": 0, "1 = [1]": 0, "[1] = [1]": 1,
            "[1] = [2]": 0, "[1] = [1, 1]": 0, "[1, 2] = [2, 1]": 0, "[[1], 2] = [[1], 2]": 1, "[[1], 2] = [[1, 2]]": 0,
            "[[]] = []": 0, "[[]] = [[]]": 1, "[0] = [[]]": 0, "-0 = 0": 1, "[1, [2, [3]]] = [1, [2, [3]]]": 1,
            "[1, [2, [3]]] = [1, [2, [4]]]": 0, "[[1, 2], [3]] = [[1], [2, 3]]": 0})

    def test_has(self):
        self.check_all({
            "has([1, 2], 2)": 1, "has([1, 2], 3)": 0, "has([], 1)": 0, "has([[]], [])": 1, "has([[1]], 1)": 0,
            "has([1, [2, 3]], [2, 3])": 1, "has([1, [2, 3]], 2)": 0, "has([], [])": 0, "has([0], [])": 0,
            "has(1, 1)": KIND, "has(1, [1])": KIND})

    def test_cat(self):
        self.check_all({
            "cat([1], [2, 3])": [1, 2, 3], "cat([], [])": [], "cat([1], [])": [1], "cat([], [1])": [1],
            "cat([[1]], [[2], 3])": [[1], [2], 3], "cat(1, [])": KIND, "cat([], 1)": KIND, "cat(1, 2)": KIND})

    def test_len(self):
        self.check_all({"len([])": 0, "len([1, [2, 3], 4])": 3, "len([[]])": 1, "len(1)": KIND, "len(0)": KIND})

    def test_at(self):
        self.check_all({
            "at(d, 0)": 5, "at(d, 1)": [6], "at(d, 2)": 7, "at(d, 3)": PLACE, "at(d, -1)": PLACE, "at(d, -3)": PLACE,
            "at(d, %d)" % MOST: PLACE, "at(d, -%d)" % MOST: PLACE, "at([], 0)": PLACE, "at(1, 0)": KIND,
            "at(d, [])": KIND, "at(1, [])": KIND, "at(1, -1)": KIND, "at([], [0])": KIND}, given="[5, [6], 7]")

    def test_drop(self):
        self.check_all({
            "drop(d, 0)": [5, [6], 7], "drop(d, 1)": [[6], 7], "drop(d, 2)": [7], "drop(d, 3)": [], "drop(d, 4)": PLACE,
            "drop(d, -1)": PLACE, "drop([], 0)": [], "drop([], 1)": PLACE, "drop(d, %d)" % MOST: PLACE,
            "drop(1, 0)": KIND, "drop(d, [])": KIND, "drop(1, -1)": KIND}, given="[5, [6], 7]")

    def test_look(self):
        self.check_all({
            "look([[1, 5]], 1, 0)": 5, "look([[1, 5]], 2, 0)": 0, "look([], 1, 9)": 9, "look([[1, 5], [1, 6]], 1, 0)": 5,
            "look([[2, 5], [1, 6]], 1, 0)": 6, "look([1, 2, [1]], 1, 0)": 0, "look([[1], [1, 2, 3], [1, 4]], 1, 0)": 4,
            "look([[[], 5]], [], 0)": 5, "look([[[1, 2], [3]]], [1, 2], 0)": [3], "look([[1, 5]], 5, 7)": 7,
            "look([[], [1, 5]], 1, 0)": 5, "look([[1, 2, 3]], 1, [8])": [8], "look([[[1], 5]], 1, 0)": 0,
            "look(1, 1, 1)": KIND, "look(1, [], [])": KIND, "look([], [], [])": []})


class Sizes(Worth):
    def test_four_hundred_parts_and_one_more(self):
        given = "[" + ", ".join(["0"] * 57) + "]"
        seven = "d"
        for count in range(6):
            seven = "cat(" + seven + ", d)"
        self.check(seven, [0] * 399, given=given)
        self.check("cat(" + seven + ", [])", [0] * 399, given=given)
        self.check("cat(" + seven + ", [1])", LARGE, given=given)
        self.check("cat([[]], " + seven + ")", LARGE, given=given)
        self.check("[" + seven + "]", LARGE, given=given)
        self.check("drop(" + seven + ", 398)", [0], given=given)

    def test_four_hundred_parts_of_written_lists(self):
        given = "[" + ", ".join(["0"] * 57) + "]"
        held = [[0] * 57] * 6
        self.check("[" + "d, " * 6 + ", ".join(["1"] * 51) + "]", held + [1] * 51, given=given)
        self.check("[" + "d, " * 6 + ", ".join(["1"] * 52) + "]", LARGE, given=given)
        self.check("[" + "d, " * 6 + ", ".join(["[]"] * 51) + "]", held + [[]] * 51, given=given)
        self.check("[" + "d, " * 6 + ", ".join(["[]"] * 52) + "]", LARGE, given=given)

    def test_depths_of_twenty_and_one_more(self):
        def deep(count):
            value = []
            for level in range(count - 1):
                value = [value]
            return value
        self.check("[" * 20 + "]" * 20, deep(20))
        self.check("[" * 21 + "]" * 21, LARGE)
        self.check("[1, " * 20 + "2" + "]" * 20, [1] + [self.pairs(19)])
        self.check("[1, " * 21 + "2" + "]" * 21, LARGE)
        given = "[" * 19 + "]" * 19
        self.check("[d]", deep(20), given=given)
        self.check("[1, d, 2]", [1, deep(19), 2], given=given)
        self.check("[[d]]", LARGE, given=given)
        self.check("[1, [d], 2]", LARGE, given=given)
        self.check("cat([d], [d])", [deep(19), deep(19)], given=given)
        self.check("cat([d], [[1]])", [deep(19), [1]], given=given)
        self.check("[at([d], 0)]", deep(20), given=given)
        self.check("[drop([d, 1], 1)]", [[1]], given=given)
        self.check("[drop([1, d], 1)]", LARGE, given=given)

    def pairs(self, count):
        value = 2
        for level in range(count):
            value = [1, value]
        return value

    def test_what_is_too_large_on_the_way_is_a_fault(self):
        self.check("len(" + "[" * 21 + "]" * 21 + ")", LARGE)
        self.check("0 & " + "[" * 21 + "]" * 21, 0)


class FirstFaults(Worth):
    def test_the_first_fault_of_the_arguments_in_order(self):
        shapes = ("%s + %s", "%s - %s", "%s * %s", "%s / %s", "%s %% %s", "%s = %s", "%s < %s", "max(%s, %s)",
                  "min(%s, %s)", "at(%s, %s)", "cat(%s, %s)", "drop(%s, %s)", "has(%s, %s)", "[%s, %s]", "[1, %s, 2, %s]",
                  "look(%s, %s, 1)", "look(%s, 1, %s)", "look([], %s, %s)")
        for shape in shapes:
            for first, fault in FAULTY.items():
                for second in FAULTY:
                    self.check(shape % (first, second), fault)

    def test_faults_of_arguments_come_before_wrong_kinds(self):
        self.check_all({
            "[] + 1 / 0": NOUGHT, "1 / 0 + []": NOUGHT, "at(1, 1 / 0)": NOUGHT, "len(1 / 0)": NOUGHT,
            "look(1, 1 / 0, 2)": NOUGHT, "look(1, 2, 1 / 0)": NOUGHT, "cat(1, at([], 0))": PLACE, "-(1 / 0)": NOUGHT,
            "!(1 / 0)": NOUGHT, "[] < 1 / 0": NOUGHT, "[[] + 1, 1 / 0]": KIND, "[1 / 0, [] + 1]": NOUGHT})

    def test_all_arguments_matter_elsewhere(self):
        self.check_all({
            "look([[1, 5]], 1, 1 / 0)": NOUGHT, "0 * (1 / 0)": NOUGHT, "max(%d, 1 / 0)" % MOST: NOUGHT,
            "has([1], 1 / 0)": NOUGHT, "1 = 1 / 0": NOUGHT, "1 / 0 = 1 / 0": NOUGHT, "at([1, 1 / 0], 0)": NOUGHT,
            "len([1 / 0])": NOUGHT})

    def test_wrong_kinds_come_before_other_faults(self):
        self.check_all({"[] / 0": KIND, "[] % 0": KIND, "1 / []": KIND, "at([], [])": KIND, "drop(-1, -1)": KIND,
                        "at(5, 9)": KIND})

    def test_faults_go_through_occurrences(self):
        for given, fault in FAULTY.items():
            self.check("d + 1", fault, given=given)
            self.check("[d]", fault, given=given)
            self.check("if d then 1 else 2", fault, given=given)
            self.check("if 0 then d else 2", 2, given=given)


if __name__ == "__main__":
    unittest.main()
