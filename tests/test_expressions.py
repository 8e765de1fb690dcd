"""How expressions are read."""

import unittest

from tests.helper import ask, begin, cut, deliver, grammar, last, outcome, reads, tree, wire, work

COUNTS = {"len": 1, "at": 2, "cat": 2, "look": 3, "drop": 2, "has": 2, "max": 2, "min": 2}


class Grouping(unittest.TestCase):
    def check(self, expression, number):
        self.assertEqual(outcome(expression), [0, number], expression)

    def test_to_the_left(self):
        self.check("10 - 3 - 2", 5)
        self.check("10 - 3 + 2", 9)
        self.check("100 / 10 / 5", 2)
        self.check("17 % 10 % 4", 3)
        self.check("20 / 2 * 3", 30)
        self.check("7 * 3 / 2", 10)
        self.check("7 % 4 * 2", 6)
        self.check("0 & 1 | 1", 1)
        self.check("1 & 1 & 0", 0)

    def test_groups_of_and_and_or_to_the_left(self):
        # Grouped to the right, what stands behind the fault would be looked at otherwise.
        self.check("1 | 1 / 0 | 1 / 0", 1)
        self.check("0 & 1 / 0 & 1 / 0", 0)

    def test_brackets(self):
        self.check("10 - (3 - 2)", 9)
        self.check("(1 + 2) * 3", 9)
        self.check("((((5))))", 5)
        self.check("-(1 + 2)", -3)
        self.check("!(1 & 0)", 1)

    def test_order_of_the_operators(self):
        self.check("1 + 2 * 3", 7)
        self.check("2 * 3 + 1", 7)
        self.check("10 - 6 / 2", 7)
        self.check("10 - 7 % 4", 7)
        self.check("1 + 1 = 2", 1)
        self.check("2 = 1 + 1", 1)
        self.check("1 < 1 + 1", 1)
        self.check("2 * 2 < 5", 1)
        self.check("5 < 2 * 2", 0)
        self.check("3 = 3 & 2 < 1", 0)
        self.check("0 & 0 | 1", 1)
        self.check("1 | 0 & 0", 1)
        self.check("1 | 1 & 0", 1)
        self.check("0 = 1 | 1 = 1", 1)
        self.check("1 < 2 & 2 < 3 & 3 < 4", 1)
        self.check("1 + 2 < 4 & 2 = 2 | 0", 1)

    def test_signs_before_one_argument_bind_most(self):
        self.check("-7 / 2", -4)
        self.check("-(7 / 2)", -3)
        self.check("!0 + 1", 2)
        self.check("!1 = 0", 1)
        self.check("2 - -3", 5)
        self.check("2 * -3", -6)
        self.check("- - 3", 3)
        self.check("!-!3", 1)
        self.check("-!0", -1)
        self.check("1 < -1", 0)
        self.check("1 & !0", 1)

    def test_at_most_one_comparison(self):
        for expression in ("1 = 1 = 1", "1 < 2 < 3", "1 = 1 < 2", "1 < 2 = 1", "1 + 1 = 2 = 2",
                           "0 & 1 = 1 = 1", "1 = 2 + 3 < 4", "1 = 1 & 1 = 1 = 1", "(1 = 1 = 1)"):
            self.assertFalse(reads(expression), expression)
        self.check("(1 = 1) = 1", 1)
        self.check("2 = (2 = 2)", 0)
        self.check("1 = 1 & 2 = 2", 1)
        self.check("1 = 2 | 2 = 2", 1)

    def test_if(self):
        self.check("if 1 then 2 else 3", 2)
        self.check("if 0 then 2 else 3", 3)
        self.check("if 0 then 1 else 2 + 3", 5)
        self.check("if 1 then 1 else 2 + 3", 1)
        self.check("if 1 then if 0 then 1 else 2 else 3", 2)
        self.check("if 0 then 1 else if 0 then 2 else 3", 3)
        self.check("if if 1 then 0 else 1 then 5 else 6", 6)
        self.check("(if 1 then 2 else 3) + 1", 3)
        self.check("1 + (if 1 then 2 else 3)", 3)
        self.check("max(if 1 then 2 else 3, if 0 then 2 else 4)", 4)
        self.check("if 1 = 1 & 1 then 1 | 0 else 0", 1)

    def test_if_stands_where_an_expression_does(self):
        for expression in ("1 + if 1 then 2 else 3", "-if 1 then 2 else 3", "!if 1 then 2 else 3",
                           "1 & if 1 then 2 else 3", "1 = if 1 then 2 else 3", "2 * if 1 then 2 else 3"):
            self.assertFalse(reads(expression), expression)

    def test_texts_that_are_no_expressions(self):
        for expression in ("", "+", "1 +", "+ 1", "* 1", "1 *", "1 ! 1", "(", ")", "()", "(1", "1)", "(1))", "[", "]",
                           "[1", "[1,]", "[,1]", "[1 2]", "1, 2", "(1, 2)", "1 2", "d d", "- ", "!", "if", "if 1",
                           "if 1 then 2", "if 1 then 2 else", "if 1 else 2", "if then 1 else 2", "then 1", "else",
                           "1 then 2", "1 = ", "< 1", "1 & ", "| 1", "1 | | 0", "1 && 1", "1 == 1", "1 > 0", "1 <= 2",
                           "E", "1.E", "1 : 2", "? 1", "{1}", "(1]", "[1)", "len(d]", "d ? 1"):
            self.assertFalse(reads(expression), expression)


class Occurrences(unittest.TestCase):
    def test_own_number(self):
        self.assertEqual(outcome("#", own="31"), [0, 31])
        self.assertEqual(outcome("# - #*2", own="-31"), [0, 31])

    def test_place_nought_may_be_written(self):
        self.assertEqual(outcome("0.d + d", given="4"), [0, 8])
        self.assertEqual(outcome("00.d + 000.d", given="4"), [0, 8])
        self.assertEqual(last(grammar("S > v w; p S: { 0.v = 0.w; w = 3; }")), [0, 1, 1])

    def test_texts_that_are_no_occurrences(self):
        for expression in ("0.", ".d", "0.D", "0.if", "0.0", "0..d", "#.d", "d.d", "d.0", "(0).d", "0.d.d", "-.d",
                           "0.(d)", "0 d"):
            self.assertFalse(reads(expression), expression)

    def test_a_sign_before_a_place_is_before_the_occurrence(self):
        self.assertEqual(outcome("-0.d", given="4"), [0, -4])

    def test_only_attributes_at_that_place(self):
        for expression in ("r", "0.r", "x", "1.v", "1.d", "2.d", "999999999999999999.d"):
            self.assertFalse(reads(expression), expression)


class Calls(unittest.TestCase):
    def test_counts_of_arguments(self):
        for name, count in COUNTS.items():
            for given in range(5):
                expression = name + "(" + ", ".join(["1"] * given) + ")"
                self.assertEqual(reads(expression), given == count, expression)

    def test_wrong_names(self):
        for expression in ("foo(1)", "d(1)", "d()", "Len([1])", "lenn([1])", "le([1])", "if(1)", "at1([1], 0)",
                           "not(1)", "list(1)", "number(1)", "mod(1, 2)", "negative(1)", "own(1)"):
            self.assertFalse(reads(expression), expression)

    def test_a_blank_may_stand_before_the_bracket(self):
        self.assertEqual(outcome("max (1, 2)"), [0, 2])

    def test_behind_a_place_a_name_is_an_occurrences(self):
        self.assertFalse(reads("0.len([1])"))
        self.assertFalse(reads("0.d(1)"))

    def test_badly_bracketed_arguments(self):
        for expression in ("len", "len(", "len([1]", "len([1],)", "max(,1)", "max(1,,2)", "max(1;2)", "max 1, 2"):
            self.assertFalse(reads(expression), expression)

    def test_attributes_may_be_called_like_calls(self):
        text = """S > r; E len > at; top S: E { r = 1.at; 1.len = [5, 6]; }
                  leaf E #: { at = [len, 0.len, len(len), at(len, 1), len (0.len)]; }"""
        found = ask(grammar(text), tree("top(leaf 1)"), cut(1), begin(), work(0), deliver(0), work(1), wire())
        pair = [1, 2, 0, 5, 0, 6]
        self.assertEqual(found[0], [0, 2, 2])
        self.assertEqual(found[-1], [0, 1, 0, 1, 1, 1, 5] + pair + pair + [0, 2, 0, 6, 0, 2])

    def test_attributes_called_like_every_call(self):
        for name in COUNTS:
            self.assertEqual(last(grammar("S > %s; p S: { %s = %s; }" % (name, name, name))), [0, 1, 1], name)

    def test_a_call_is_no_occurrence(self):
        self.assertEqual(outcome("len([])"), [0, 0])
        self.assertFalse(reads("len + 1"))


class Parts(unittest.TestCase):
    def check_limit(self, allowed):
        self.assertTrue(reads(allowed), allowed)
        self.assertFalse(reads("-(" + allowed + ")"), allowed)

    def test_sixty_parts_and_one_more(self):
        self.check_limit("-1" + " + 1" * 29)
        self.check_limit("!1" + " & 1" * 29)
        self.check_limit("-#" + " - d" * 29)
        self.check_limit("[" + ", ".join(["1"] * 59) + "]")
        self.check_limit("[" + ", ".join(["[]"] * 59) + "]")
        self.check_limit("[" + ", ".join(["d"] * 59) + "]")
        self.check_limit("[" + ", ".join(["0.d"] * 59) + "]")
        self.check_limit("[" + ", ".join(["#"] * 59) + "]")
        self.check_limit("[" + ", ".join(["-1"] * 29) + ", 1]")
        self.check_limit("[" + ", ".join(["!1"] * 29) + ", 1]")
        self.check_limit("[" + ", ".join(["len(d)"] * 29) + ", 1]")
        self.check_limit("[" + ", ".join(["max(1, 2)"] * 19) + ", 1, 1]")
        self.check_limit("[" + ", ".join(["look(d, 1, 2)"] * 14) + ", 1, 1, 1]")
        self.check_limit("[" + ", ".join(["if 1 then 2 else 3"] * 14) + ", 1, 1, 1]")
        for sign in "|&=<+-*/%":
            self.check_limit("[" + ", ".join(["1 " + sign + " 2"] * 19) + ", 1, 1]")

    def test_brackets_are_no_parts(self):
        self.assertTrue(reads("-(1)" + " + ((1))" * 29))
        self.assertFalse(reads("--(1)" + " + ((1))" * 29))

    def test_each_expression_is_counted_alone(self):
        sixty = "-1" + " + 1" * 29
        text = "S > v w; p S: { v = %s; w = %s; ? %s; ? %s; }" % (sixty, sixty, sixty, sixty)
        self.assertEqual(last(grammar(text)), [0, 1, 1])
        self.assertEqual(last(grammar("S > v; p S: { v = 1; ? -%s; }" % sixty)), [-2])

    def test_very_many_parts(self):
        self.assertFalse(reads("1" + "+1" * 1300))
        self.assertFalse(reads("[" + "1," * 1300 + "1]"))


def nested(count, opening="(", closing=")"):
    return opening * count + "1" + closing * count


class Levels(unittest.TestCase):
    def check_limit(self, allowed, refused):
        self.assertTrue(reads(allowed), allowed)
        self.assertFalse(reads(refused), refused)

    def test_thirty_of_each_and_one_more(self):
        for opening, closing in (("(", ")"), ("[", "]"), ("len(", ")"), ("-", ""), ("!", ""), ("- ", "")):
            allowed = nested(30, opening, closing)
            self.check_limit(allowed, nested(31, opening, closing))
            self.assertFalse(reads("(" + allowed + ")"), allowed)
            self.assertFalse(reads(allowed.replace("1", "-1")), allowed)

    def test_levels_of_several_kinds(self):
        self.check_limit(nested(10, "-([", "])"), nested(10, "-([", "])").replace("1", "!1"))
        self.check_limit(nested(10, "!len(-", ")"), "-" + nested(10, "!len(-", ")"))

    def test_what_thirty_levels_are_worth(self):
        self.assertEqual(outcome(nested(30)), [0, 1])
        self.assertEqual(outcome(nested(30, "-", "")), [0, 1])
        self.assertEqual(outcome(nested(29, "-", "")), [0, -1])
        self.assertEqual(outcome(nested(30, "!", "")), [0, 1])

    def test_calls_with_more_arguments(self):
        for name, count in COUNTS.items():
            opening = name + "(" + "1, " * (count - 1)
            inner = nested(10, opening, ")")
            self.check_limit("(" * 20 + inner + ")" * 20, "(" * 21 + inner + ")" * 21)

    def test_if_opens_a_level(self):
        for opening, closing in (("if 1 then 1 else ", ""), ("if 1 then ", " else 1"), ("if ", " then 1 else 1")):
            inner = nested(19, opening, closing)
            self.check_limit("(" * 11 + inner + ")" * 11, "(" * 12 + inner + ")" * 12)

    def test_a_level_ends_with_what_it_belongs_to(self):
        deep = nested(30)
        less = nested(29)
        self.assertTrue(reads(deep + " + " + deep))
        self.check_limit("[" + less + ", " + less + "]", "[" + less + ", " + deep + "]")
        self.check_limit("max(" + less + ", " + less + ")", "max(1, " + deep + ")")
        self.assertTrue(reads("-1 + " + deep))
        self.assertTrue(reads("-1 * " + deep))
        self.assertTrue(reads("!1 & " + deep))
        self.assertTrue(reads("[1] = " + deep))
        self.assertTrue(reads("len([]) + " + deep))
        self.assertTrue(reads("(1) + " + deep))
        self.check_limit("-" + less, "-" + deep)
        self.check_limit("!" + less, "!" + deep)

    def test_an_if_ends_with_its_last_part(self):
        deep = nested(30)
        less = nested(29)
        lesser = nested(28)
        self.check_limit("if " + less + " then " + less + " else " + less, "if " + deep + " then 1 else 1")
        self.assertFalse(reads("if 1 then " + deep + " else 1"))
        self.assertFalse(reads("if 1 then 1 else " + deep))
        self.check_limit("[if 1 then 1 else " + lesser + ", " + less + "]", "[if 1 then 1 else " + less + ", 1]")
        self.check_limit("if 1 then 1 else 1 + " + less, "if 1 then 1 else 1 + " + deep)

    def test_rules_begin_with_no_level(self):
        deep = nested(30)
        text = "S > v w; p S: { v = %s; w = %s; ? %s; }" % (deep, deep, deep)
        self.assertEqual(last(grammar(text)), [0, 1, 1])
        self.assertEqual(last(grammar("S > v; p S: { v = 1; ? (%s); }" % deep)), [-2])

    def test_very_many_levels(self):
        for opening, closing in (("(", ")"), ("[", "]"), ("-", ""), ("!", ""), ("", ")")):
            self.assertFalse(reads(nested(1200, opening, closing)))
            self.assertFalse(reads(opening * 2500))
        self.assertFalse(reads("if " * 900))


if __name__ == "__main__":
    unittest.main()
