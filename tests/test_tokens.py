"""Texts and tokens."""

import unittest

from tests.helper import SMALL, ask, grammar, last, outcome, reads, tree
from treeworkers.errors import Unreadable
from treeworkers.tokens import split_tokens


def tokens(text):
    return split_tokens(list(text.encode("utf-8")))[:-1]


class Names(unittest.TestCase):
    def test_great_and_small(self):
        self.assertEqual(tokens("Ab aB Z z"), [("great", "Ab"), ("small", "aB"), ("great", "Z"), ("small", "z")])

    def test_all_letters_and_digits(self):
        for name in ("abcdefghijkl", "mnopqrstuvwx", "yzA0123456789"[:12], "y9z"):
            self.assertEqual(tokens(name), [("small", name)])
        for name in ("ABCDEFGHIJKL", "MNOPQRSTUVWX", "YZ0123456789"):
            self.assertEqual(tokens(name), [("great", name)])

    def test_words_are_no_names(self):
        self.assertEqual(tokens("if then else"), [("if", 0), ("then", 0), ("else", 0)])
        for word in ("if", "then", "else"):
            self.assertEqual(last(grammar("S > %s; p S: { %s = 1; }" % (word, word))), [-2], word)
            self.assertEqual(last(grammar("S > ; %s S: { }" % word)), [-2], word)

    def test_names_that_begin_or_end_like_words_are_names(self):
        for name in ("ifs", "if1", "xif", "thenx", "elsee", "iF", "eLse"):
            self.assertEqual(last(grammar("S > %s; p S: { %s = 1; }" % (name, name))), [0, 1, 1], name)
        for name in ("If", "Then", "Else"):
            self.assertEqual(last(grammar("%s > ; p %s: { }" % (name, name))), [0, 1, 1], name)

    def test_twelve_and_thirteen_bytes(self):
        for name in ("a" * 12, "a1" * 6, "aZ" * 6):
            self.assertEqual(last(grammar("S > %s; p S: { %s = 1; }" % (name, name))), [0, 1, 1], name)
            longer = name + "b"
            self.assertEqual(last(grammar("S > %s; p S: { %s = 1; }" % (longer, longer))), [-2], longer)
        self.assertEqual(last(grammar("B%s > ; p B%s: { }" % ("c" * 11, "c" * 11))), [0, 1, 1])
        self.assertEqual(last(grammar("B%s > ; p B%s: { }" % ("c" * 12, "c" * 12))), [-2])

    def test_names_differ_by_every_letter(self):
        self.assertEqual(last(grammar("S > v; p S: { V = 1; }")), [-2])
        self.assertEqual(last(grammar("S > vv; p S: { vV = 1; }")), [-2])
        self.assertEqual(last(grammar("S > v1; p S: { v2 = 1; }")), [-2])


class Numbers(unittest.TestCase):
    def test_a_number_ends_where_its_digits_end(self):
        self.assertEqual(tokens("12ab"), [("number", 12), ("small", "ab")])
        self.assertEqual(tokens("12Ab3"), [("number", 12), ("great", "Ab3")])
        self.assertEqual(outcome("if 12then 3else 4"), [0, 3])
        self.assertFalse(reads("12ab"))

    def test_a_run_behind_a_number_is_measured_alone(self):
        self.assertEqual(tokens("1" * 18 + "a" * 12), [("number", int("1" * 18)), ("small", "a" * 12)])
        with self.assertRaises(Unreadable):
            tokens("1" + "a" * 13)

    def test_zeros_before(self):
        self.assertEqual(outcome("007"), [0, 7])
        self.assertEqual(outcome("000"), [0, 0])
        self.assertEqual(outcome("0" * 17 + "9"), [0, 9])
        self.assertEqual(outcome("00.d", given="5"), [0, 5])

    def test_eighteen_and_nineteen_digits(self):
        self.assertEqual(outcome("9" * 18), [0, 999999999999999999])
        self.assertEqual(outcome("123456789012345678"), [0, 123456789012345678])
        self.assertFalse(reads("1" * 19))
        self.assertFalse(reads("0" * 18 + "1"))
        held = grammar(SMALL)
        self.assertEqual(last(held, tree("lit " + "9" * 18)), [0, 1, 2])
        self.assertEqual(last(held, tree("lit " + "0" * 19)), [-4])


class BlanksAndSigns(unittest.TestCase):
    def test_every_sign(self):
        signs = ";:{}()[],.=<>+-*/%&|!?#"
        kinds = [token[0] for token in tokens(signs)]
        self.assertEqual(kinds, ["mod" if sign == "%" else sign for sign in signs])

    def test_two_bytes_are_blanks_and_no_other(self):
        for byte in range(256):
            blank = byte in (32, 10)
            found = ask(grammar(list(SMALL.encode()) + [byte]), grammar(SMALL), tree(list(b"lit 3 ") + [byte]))
            self.assertEqual(found[0], [0, 2, 2] if blank else [-2], byte)
            self.assertEqual(found[2], [0, 1, 2] if blank else [-4], byte)

    def test_blanks_before_between_and_behind(self):
        self.assertEqual(last(grammar("\n\n S\n>\nv ;p\nS :{\nv =1 ;} \n")), [0, 1, 1])
        self.assertEqual(last(grammar(SMALL), tree(" \n top (\nlit - 3 ) \n")), [0, 2, 3])

    def test_a_blank_parts_tokens(self):
        self.assertFalse(reads("1 2"))
        self.assertEqual(last(grammar("S > a b; p S: { ab = 1; }")), [-2])
        self.assertEqual(outcome("0 . d", given="3"), [0, 3])

    def test_bytes_that_begin_no_token(self):
        for byte in list(range(0, 10)) + list(range(11, 32)) + list(b"\"$'@\\^_`~") + list(range(127, 256)):
            with self.assertRaises(Unreadable, msg=byte):
                split_tokens([byte])
        for sign in "\"$'@\\^_`~\t\r":
            self.assertFalse(reads("1 + " + sign + "1"), sign)
            self.assertEqual(last(grammar(SMALL), tree("lit" + sign + "3")), [-4], sign)

    def test_signs_right_behind_other_tokens(self):
        tight = "S>v;E d>v;top S:E{v=1.v;1.d=4;}lit E#:{v=#+d;?(d)<[1,2];?0|1&max(1,2)*3/2%!-1=0;}"
        self.assertEqual(ask(grammar(tight), tree("top(lit-3)")), [[0, 2, 2], [0, 2, 3]])

    def test_symbols_with_and_without_blanks_before_the_sign(self):
        for text in ("S>v;p S:{v=1;}", "S >v ;p S :{v =1 ;}", "S> v; p S: { v= 1; }"):
            self.assertEqual(last(grammar(text)), [0, 1, 1], text)


if __name__ == "__main__":
    unittest.main()
