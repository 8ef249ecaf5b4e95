"""Points 13 and 15: what is open, and the place at which a text is no formula."""

import unittest
from fractions import Fraction

from helping import refusal
from partloft.formulas import read_formula


class Places(unittest.TestCase):
    def check_place(self, text, place):
        with self.subTest(text):
            self.assertEqual(refusal(read_formula, text), ("InvalidFormula", place))

    def check_formula(self, text):
        with self.subTest(text):
            self.assertIsNone(refusal(read_formula, text))


class Point13(Places):
    """At most 24 brackets, `-`, `!` and `?` are open at the same time."""

    def check_bound(self, opening, closing, step=1):
        """24 of them are a formula; the last sign of a 25th opening is refused."""
        self.check_formula(opening * 24 + "1" + closing * 24)
        self.check_place(opening * 25 + "1" + closing * 25, 25 * len(opening) - step)

    def test_each_kind_of_opening(self):
        self.check_bound("(", ")")
        self.check_bound("-", "")
        self.check_bound("!", "")
        self.check_bound("abs(", ")")
        self.check_bound("1?", ":1")
        self.check_bound("1?1:", "", 3)
        self.check_bound("1+(", ")")

    def test_mixtures(self):
        self.check_formula("-(" * 12 + "1" + ")" * 12)
        self.check_place("-(" * 12 + "-1" + ")" * 12, 24)
        self.check_formula("-!(1?" * 6 + "1" + ":1)" * 6)
        self.check_place("-!(1?" * 6 + "(1)" + ":1)" * 6, 30)
        self.check_place("-!(1?" * 6 + "1?1:1" + ":1)" * 6, 31)
        self.check_place("-!(1?" * 6 + "!1" + ":1)" * 6, 30)
        self.check_place("-!(1?" * 6 + "abs(1)" + ":1)" * 6, 33)

    def test_a_bracket_is_open_until_its_closing_bracket(self):
        self.check_formula("(" * 23 + "(1)+(1)" + ")" * 23)
        self.check_formula("(" * 24 + "1" + ")" * 24 + "+" + "(" * 24 + "1" + ")" * 24)
        self.check_formula("min(" + "(" * 23 + "1" + ")" * 23 + "," + "(" * 23 + "1" + ")" * 23 + ")")
        self.check_place("min(" + "(" * 23 + "1" + ")" * 23 + "," + "(" * 24 + "1" + ")" * 24 + ")", 75)

    def test_a_sign_in_front_is_open_until_the_end_of_its_operand(self):
        self.check_formula("-" * 24 + "1+" + "-" * 24 + "1")
        self.check_formula("-" * 24 + "1mm*" + "!" * 24 + "1")
        self.check_formula("-" * 24 + "1?-1:-1")
        self.check_formula("-" * 20 + "abs(---1+---1)--1")
        self.check_place("-" * 20 + "abs(---1+----1)", 32)
        self.check_place("-" * 24 + "(1)", 24)
        self.check_formula("-" * 23 + "(1)")
        self.check_formula("(" * 23 + "-1 - -1" + ")" * 23)

    def test_a_question_mark_is_open_until_the_end_of_the_formula_behind_its_colon(self):
        self.check_formula("1?1:" * 24 + "1")
        self.check_place("1?1:" * 24 + "-1", 96)
        self.check_place("1?1:" * 25 + "1", 97)
        self.check_formula("(" + "1?1:" * 23 + "1)+(" + "1?1:" * 23 + "1)")
        self.check_formula("1?" + "1?1:" * 23 + "1:" + "1?1:" * 23 + "1")
        self.check_place("1?" + "1?1:" * 24 + "1:1", 2 + 4 * 23 + 1)
        self.check_place("1?1:" + "1?1:" * 24 + "1", 4 + 4 * 23 + 1)
        self.check_formula("min(" + "1?1:" * 23 + "1," + "1?1:" * 23 + "1)")
        self.check_formula("1?" * 12 + "1?1:" * 12 + "1" + ":1" * 12)
        self.check_place("1?" * 12 + "1?1:" * 12 + "-1" + ":1" * 12, 72)

    def test_what_is_closed_is_open_no_more(self):
        for closed in ("(1)", "abs(1)", "-1", "!1", "(1?1:1)", "min(1,1)", "(1?1?1:1:1)"):
            row = closed + ("+" + closed) * 11
            self.check_formula(row + "+" + "(" * 24 + "1" + ")" * 24)
            self.check_place(row + "+" + "(" * 25 + "1" + ")" * 25, len(row) + 25)
        self.check_formula("+".join(["(1)"] * 60))
        self.check_formula("+".join(["abs(1)"] * 34))

    def test_the_condition_is_not_within_the_question_mark(self):
        self.check_formula("(" * 24 + "1" + ")" * 24 + "?" + "(" * 23 + "1" + ")" * 23 + ":1")
        self.check_place("1?" + "(" * 24 + "1" + ")" * 24 + ":1", 25)
        self.check_place("1?1:" + "(" * 24 + "1" + ")" * 24, 27)

    def test_what_is_wrong_anyway_counts_before_the_bound(self):
        self.check_place("(" * 24 + ")", 24)
        self.check_place("(" * 24 + "1 1(", 26)
        self.check_place("(" * 24, 24)
        self.check_place("(" * 24 + "abs", 27)
        self.check_place("(" * 24 + "abs 1", 28)


class Point15(Places):
    """The place of the first token that is wrong."""

    def test_the_places_of_the_document(self):
        self.check_place("min + 1", 4)
        self.check_place("min(1)", 5)
        self.check_place("abs(1, 2)", 5)
        self.check_place("2 * abs", 7)

    def test_texts_of_240_and_241_characters(self):
        self.check_formula(" " * 239 + "1")
        self.check_formula("1" + "+1" * 119 + " ")
        self.check_place(" " * 240 + "1", 240)
        self.check_place("1" + " " * 240, 240)
        self.check_place("$" + " " * 240, 240)
        self.check_place("1" + "+1" * 120, 240)
        self.check_place("$" * 1000, 240)
        self.check_place("$" + " " * 239, 0)
        self.check_place(" " * 240, 240)
        self.check_place("1" + "+1" * 119 + "+", 240)

    def test_texts_that_end_too_early(self):
        endings = (
            "", "  ", "1 +", "1 + ", "-", "!", "(", "(1", "(1 ", "min", "min(", "min(1", "min(1,", "min(1, 2", "a ?",
            "a ? b", "a ? b :", "a ? b : c ?", "a &&", "a ? (b", "mid(1, 2, ", "abs (", "((1)", "1 == ", "-(", "a ? b ? c : d",
        )
        for text in endings:
            self.check_place(text, len(text))

    def test_tokens_that_cannot_stand_at_the_beginning_of_an_operand(self):
        for wrong in ("+", "*", "/", ")", ",", "?", ":", "==", "!=", "<", "<=", ">", ">=", "&&", "||", "mm", "cm", "in"):
            for before in ("", "1 + ", "-", "(", "min(", "min(1, ", "a ? ", "a ? b : ", "a && "):
                self.check_place(before + wrong + " 1", len(before))

    def test_tokens_that_cannot_stand_behind_an_operand(self):
        for wrong in ("1", "a", "abs(1)", "(1)", "!a", ")", ",", ":", "mm", "1.5 in"):
            for before in ("a ", "(1) ", "abs(1) ", "2 mm ", "-a ", "a ? b : c "):
                self.check_place(before + wrong, len(before))

    def test_brackets_commas_and_colons_that_do_not_fit(self):
        self.check_place("(a ? b) : c", 6)
        self.check_place("min(a ? b, c)", 9)
        self.check_place("(a, b)", 2)
        self.check_place("(a : b)", 3)
        self.check_place("a ? (b : c)", 7)
        self.check_place("a ? b : c : d", 10)
        self.check_place("a ? b, c", 5)
        self.check_place("min(a ? b : c)", 13)
        self.check_place("min(1, 2, 3)", 8)
        self.check_place("mid(1, 2)", 8)
        self.check_place("min(1 : 2)", 6)
        self.check_place("abs()", 4)
        self.check_place("()", 1)
        self.check_place("(1))", 3)
        self.check_place("min((1, 2))", 6)

    def test_the_first_wrong_token_counts_though_more_is_wrong_behind_it(self):
        self.check_place(") $", 0)
        self.check_place("1 2 123456", 2)
        self.check_place("a b $", 2)
        self.check_place("1 + ) + (", 4)
        self.check_place("* 99999.9999 in", 0)
        self.check_place("a $ )", 2)
        self.check_place("1 + 123456 )", 4)
        self.check_place("min 1 $", 4)
        self.check_place(":" + "(" * 30, 0)

    def test_tokens_that_cannot_be_read(self):
        self.check_place("1 + 123456", 4)
        self.check_place("1 + 1.23456", 4)
        self.check_place("1 + 12.", 4)
        self.check_place("1 + 12x", 4)
        self.check_place("1 + 12_", 4)
        self.check_place("1 + 12mmx", 4)
        self.check_place("1 + 12mm2", 4)
        self.check_place("1 + 12mm_", 4)
        self.check_place("1 + 12inch", 4)
        self.check_place("1 + 12min(1, 2)", 4)
        self.check_place("1 + 12MM", 4)
        self.check_place("1 + abcdefghijklm", 4)
        self.check_place("1 12345678", 2)
        self.check_place("1 abcdefghijklm", 2)
        self.check_place("min abcdefghijklm", 4)
        self.check_place("1 + a.b", 5)
        self.check_place("1 + 5mm.", 7)
        self.check_place("1 & 2", 2)
        self.check_place("1 | 2", 2)
        self.check_place("1 = 2", 2)

    def test_what_may_follow_a_number(self):
        self.check_formula("12mm")
        self.check_formula("12cm+1mm")
        self.check_formula("1.5in")
        self.check_formula("(12)*12")
        self.check_place("12 mmx", 3)
        self.check_place("12 mmmmmmmmmmmmm", 3)
        self.check_place("12 x", 3)
        self.check_place("12(1)", 2)
        self.check_place("12mm(1)", 4)

    def test_numbers_that_would_be_no_quantity_with_their_unit(self):
        self.check_formula("99999.9999")
        self.check_formula("99999.9999 mm")
        self.check_formula("99999.9999 cm")
        self.check_formula("99999 in")
        self.check_formula("787.4011 in")
        self.check_place("787.4017 in", 0)
        self.check_place("99999.9999 in", 0)
        self.check_place("1 + 99999.9999in", 4)
        self.check_place("-99999.9999   in", 1)
        self.check_place("1 + 99999.9999 in $", 4)
        self.check_place("99999.9999 inx", 11)

    def test_the_largest_numbers_of_inches(self):
        seen = {True: 0, False: 0}
        for whole in (787, 1574, 3937, 7874):
            for rest in range(0, 10000, 3):
                inches = Fraction(10000 * whole + rest, 10000) * Fraction(127, 5)
                fits = inches.numerator <= 1000000000
                text = str(whole) + "." + ("0000" + str(rest))[-4:] + " in"
                self.assertEqual(refusal(read_formula, text), None if fits else ("InvalidFormula", 0), text)
                seen[fits] += 1
        self.assertTrue(seen[True] > 0 and seen[False] > 0)


if __name__ == "__main__":
    unittest.main()
