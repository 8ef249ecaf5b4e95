"""Points 11, 12 and 14: tokens, the form of a formula, and its expression."""

import unittest

from helping import refusal
from partloft.formulas import is_name, names_in, read_formula

SIGNS_BY_RANK = [["||"], ["&&"], ["==", "!="], ["<", "<=", ">", ">="], ["+", "-"], ["*", "/"]]
FUNCTIONS = {
    "min": 2, "max": 2, "mod": 2, "div": 2, "mid": 3,
    "abs": 1, "floor": 1, "ceil": 1, "round": 1, "sign": 1, "sqr": 1,
}


def number(top, bottom=1, kind=0):
    return ("number", (top, bottom, kind))


def name(word):
    return ("name", word)


A, B, C, D, E = [name(letter) for letter in "abcde"]


class Point11(unittest.TestCase):
    """Tokens: numbers, words and signs, with spaces anywhere between them."""

    def test_numbers(self):
        wanted = {
            "0": (0, 1), "7": (7, 1), "99999": (99999, 1), "00012": (12, 1), "1.5": (3, 2), "0.0001": (1, 10000),
            "12345.6789": (123456789, 10000), "99999.9999": (999999999, 10000), "2.50": (5, 2), "3.0": (3, 1),
            "1.003": (1003, 1000), "0.07": (7, 100), "0.999": (999, 1000),
        }
        for text, (top, bottom) in wanted.items():
            with self.subTest(text):
                self.assertEqual(read_formula(text), number(top, bottom))

    def test_numbers_that_are_badly_written(self):
        for text in ("123456", "000001", "1.", "1.23456", "1.2.3", "1..2", "1_", "1a", "1_mm", "1.a", "1.mm", "1.5.mm"):
            with self.subTest(text):
                self.assertEqual(refusal(read_formula, text), ("InvalidFormula", 0))
                self.assertEqual(refusal(read_formula, "a + " + text), ("InvalidFormula", 4))

    def test_words(self):
        for word in ("a", "Z", "a_1", "Ab9__", "abcdefghijkl", "MM", "Min", "mm_", "inch", "in2", "m", "number"):
            with self.subTest(word):
                self.assertEqual(read_formula(word), name(word))

    def test_words_that_are_too_long_or_begin_wrongly(self):
        for word in ("abcdefghijklm", "_a", "a" * 240):
            with self.subTest(word):
                self.assertEqual(refusal(read_formula, word), ("InvalidFormula", 0))

    def test_words_do_not_end_early(self):
        self.assertEqual(read_formula("mina"), name("mina"))
        self.assertEqual(read_formula("a1"), name("a1"))
        self.assertEqual(refusal(read_formula, "a 1"), ("InvalidFormula", 2))

    def test_each_sign(self):
        for rank in SIGNS_BY_RANK:
            for sign in rank:
                with self.subTest(sign):
                    self.assertEqual(read_formula("a" + sign + "b"), (sign, A, B))
                    self.assertEqual(read_formula("a " + sign + " b"), (sign, A, B))

    def test_the_longest_sign_is_read(self):
        self.assertEqual(read_formula("a<=b"), ("<=", A, B))
        self.assertEqual(read_formula("a<-b"), ("<", A, ("minus", B)))
        self.assertEqual(read_formula("a==!b"), ("==", A, ("not", B)))
        self.assertEqual(read_formula("a!=!b"), ("!=", A, ("not", B)))
        self.assertEqual(read_formula("a&&!!b"), ("&&", A, ("not", ("not", B))))
        self.assertEqual(read_formula("a--b"), ("-", A, ("minus", B)))
        self.assertEqual(refusal(read_formula, "a!==b"), ("InvalidFormula", 3))
        self.assertEqual(refusal(read_formula, "a===b"), ("InvalidFormula", 3))
        self.assertEqual(refusal(read_formula, "a<==b"), ("InvalidFormula", 3))
        self.assertEqual(refusal(read_formula, "a< =b"), ("InvalidFormula", 3))
        self.assertEqual(refusal(read_formula, "a! =b"), ("InvalidFormula", 1))
        self.assertEqual(refusal(read_formula, "a ? !=b : c"), ("InvalidFormula", 4))

    def test_spaces_anywhere(self):
        self.assertEqual(read_formula("   a"), A)
        self.assertEqual(read_formula("a   "), A)
        self.assertEqual(read_formula("  min  (  a  ,  b  )  "), ("call", "min", (A, B)))
        self.assertEqual(read_formula(" - ( a ) "), ("minus", A))
        self.assertEqual(read_formula("1    mm"), number(1, 1, 1))
        self.assertEqual(read_formula("a?b:c"), read_formula(" a  ?  b  :  c "))

    def test_no_spaces_within_tokens(self):
        self.assertEqual(refusal(read_formula, "1 2"), ("InvalidFormula", 2))
        self.assertEqual(refusal(read_formula, "1 .5"), ("InvalidFormula", 2))
        self.assertEqual(refusal(read_formula, "a & & b"), ("InvalidFormula", 2))
        self.assertEqual(refusal(read_formula, "m m"), ("InvalidFormula", 2))
        self.assertEqual(refusal(read_formula, "m in"), ("InvalidFormula", 2))

    def test_characters_that_begin_no_token(self):
        for character in "_.=&|$%#@[]{}'\"\\~^;\t\n\r\x00\xa0\xe9\xb2\u0661":
            with self.subTest(character):
                self.assertEqual(refusal(read_formula, character), ("InvalidFormula", 0))
                self.assertEqual(refusal(read_formula, "a +" + character), ("InvalidFormula", 3))
                self.assertEqual(refusal(read_formula, "a " + character), ("InvalidFormula", 2))

    def test_only_plain_letters_and_digits(self):
        self.assertEqual(refusal(read_formula, "a\xe9"), ("InvalidFormula", 1))
        self.assertEqual(refusal(read_formula, "1\xe9"), ("InvalidFormula", 1))
        self.assertEqual(refusal(read_formula, "1\u0661"), ("InvalidFormula", 1))
        self.assertEqual(refusal(read_formula, "1.\u0661"), ("InvalidFormula", 0))


class Point12(unittest.TestCase):
    """Ranks, operands, functions, units and names."""

    def test_signs_of_one_rank_go_from_the_left_to_the_right(self):
        for rank in SIGNS_BY_RANK:
            for first in rank:
                for second in rank:
                    with self.subTest((first, second)):
                        wanted = (second, (first, A, B), C)
                        self.assertEqual(read_formula("a " + first + " b " + second + " c"), wanted)

    def test_each_rank_binds_less_than_the_next(self):
        for loose in range(len(SIGNS_BY_RANK)):
            for tight in range(loose + 1, len(SIGNS_BY_RANK)):
                for one in SIGNS_BY_RANK[loose]:
                    for other in SIGNS_BY_RANK[tight]:
                        with self.subTest((one, other)):
                            wanted = (one, A, (other, B, C))
                            self.assertEqual(read_formula("a" + one + "b" + other + "c"), wanted)
                            wanted = (one, (other, A, B), C)
                            self.assertEqual(read_formula("a" + other + "b" + one + "c"), wanted)

    def test_all_ranks_at_once(self):
        wanted = ("||", A, ("&&", B, ("==", C, ("<", D, ("+", E, ("*", A, B))))))
        self.assertEqual(read_formula("a || b && c == d < e + a * b"), wanted)
        wanted = ("||", ("&&", ("==", ("<", ("+", ("*", A, B), C), D), E), A), B)
        self.assertEqual(read_formula("a * b + c < d == e && a || b"), wanted)

    def test_brackets_change_the_order(self):
        self.assertEqual(read_formula("a * (b + c)"), ("*", A, ("+", B, C)))
        self.assertEqual(read_formula("a - (b - c)"), ("-", A, ("-", B, C)))
        self.assertEqual(read_formula("(a || b) * c"), ("*", ("||", A, B), C))

    def test_signs_in_front_bind_most(self):
        self.assertEqual(read_formula("-a * b"), ("*", ("minus", A), B))
        self.assertEqual(read_formula("!a && b"), ("&&", ("not", A), B))
        self.assertEqual(read_formula("a * -b"), ("*", A, ("minus", B)))
        self.assertEqual(read_formula("-!-a"), ("minus", ("not", ("minus", A))))
        self.assertEqual(read_formula("- - a"), ("minus", ("minus", A)))
        self.assertEqual(read_formula("-5"), ("minus", number(5)))
        self.assertEqual(read_formula("-5 mm"), ("minus", number(5, 1, 1)))
        self.assertEqual(read_formula("-(a + b)"), ("minus", ("+", A, B)))
        self.assertEqual(read_formula("-a ? b : c"), ("choose", ("minus", A), B, C))

    def test_choices(self):
        self.assertEqual(read_formula("a ? b : c"), ("choose", A, B, C))
        self.assertEqual(read_formula("a || b ? c + d : e"), ("choose", ("||", A, B), ("+", C, D), E))
        self.assertEqual(read_formula("a ? b : c ? d : e"), ("choose", A, B, ("choose", C, D, E)))
        self.assertEqual(read_formula("a ? b ? c : d : e"), ("choose", A, ("choose", B, C, D), E))
        self.assertEqual(read_formula("(a ? b : c) ? d : e"), ("choose", ("choose", A, B, C), D, E))
        self.assertEqual(read_formula("1 + (a ? b : c)"), ("+", number(1), ("choose", A, B, C)))
        self.assertEqual(read_formula("abs(a ? b : c)"), ("call", "abs", (("choose", A, B, C),)))
        self.assertEqual(read_formula("a ? b : c + d"), ("choose", A, B, ("+", C, D)))

    def test_functions_with_their_numbers_of_arguments(self):
        for word, many in FUNCTIONS.items():
            for given in range(0, 5):
                text = word + "(" + ", ".join("abcde"[:given]) + ")"
                with self.subTest(text):
                    if given == many:
                        wanted = ("call", word, tuple([name(letter) for letter in "abcde"[:given]]))
                        self.assertEqual(read_formula(text), wanted)
                    elif given < many:
                        place = len(text) - 1
                        self.assertEqual(refusal(read_formula, text), ("InvalidFormula", place))
                    else:
                        place = len(word) + 1 + 3 * many - 2
                        self.assertEqual(refusal(read_formula, text), ("InvalidFormula", place))

    def test_functions_need_brackets_and_names_have_none(self):
        for word in FUNCTIONS:
            self.assertEqual(refusal(read_formula, word), ("InvalidFormula", len(word)))
            self.assertEqual(refusal(read_formula, word + " a"), ("InvalidFormula", len(word) + 1))
        self.assertEqual(refusal(read_formula, "a(b)"), ("InvalidFormula", 1))
        self.assertEqual(refusal(read_formula, "Min(b, c)"), ("InvalidFormula", 3))

    def test_units_stand_behind_numbers_only(self):
        for unit in ("mm", "cm", "in"):
            with self.subTest(unit):
                self.assertEqual(refusal(read_formula, unit), ("InvalidFormula", 0))
                self.assertEqual(refusal(read_formula, "a " + unit), ("InvalidFormula", 2))
                self.assertEqual(refusal(read_formula, "(1) " + unit), ("InvalidFormula", 4))
                self.assertEqual(refusal(read_formula, "1 mm " + unit), ("InvalidFormula", 5))
                self.assertEqual(refusal(read_formula, unit + "(1)"), ("InvalidFormula", 0))
                self.assertEqual(refusal(read_formula, "-" + unit), ("InvalidFormula", 1))

    def test_which_words_are_names(self):
        for word in ("a", "Z", "a_1", "abcdefghijkl", "MM", "Min", "In", "mm1", "minus", "choose", "x" * 12):
            self.assertIs(is_name(word), True, word)
        for word in list(FUNCTIONS) + ["mm", "cm", "in"]:
            self.assertIs(is_name(word), False, word)
        for word in ("", "1", "1a", "_a", "a b", " a", "a ", "a-b", "a.b", "x" * 13, "\xe9", "a\xe9", "a\n", "a\u0661"):
            self.assertIs(is_name(word), False, word)


class Point14(unittest.TestCase):
    """The expression that reading returns."""

    def test_units(self):
        self.assertEqual(read_formula("1 mm"), number(1, 1, 1))
        self.assertEqual(read_formula("1 cm"), number(10, 1, 1))
        self.assertEqual(read_formula("1 in"), number(127, 5, 1))
        self.assertEqual(read_formula("2.5mm"), number(5, 2, 1))
        self.assertEqual(read_formula("2.5cm"), number(25, 1, 1))
        self.assertEqual(read_formula("0.5in"), number(127, 10, 1))
        self.assertEqual(read_formula("0 in"), number(0, 1, 1))
        self.assertEqual(read_formula("99999.9999 cm"), number(999999999, 1000, 1))

    def test_a_unit_in_a_larger_formula(self):
        self.assertEqual(read_formula("1mm+2"), ("+", number(1, 1, 1), number(2)))
        self.assertEqual(read_formula("min(1cm,2 in)"), ("call", "min", (number(10, 1, 1), number(254, 5, 1))))
        self.assertEqual(read_formula("1mm?2mm:3mm"), ("choose", number(1, 1, 1), number(2, 1, 1), number(3, 1, 1)))

    def test_brackets_leave_no_trace(self):
        self.assertEqual(read_formula("((a))"), A)
        self.assertEqual(read_formula("(a * b) + c"), read_formula("a * b + c"))
        self.assertEqual(read_formula("min((a), ((b)))"), read_formula("min(a, b)"))
        self.assertEqual(read_formula("(1) - (2 mm)"), ("-", number(1), number(2, 1, 1)))

    def test_each_word_of_an_expression(self):
        self.assertEqual(read_formula("-a"), ("minus", A))
        self.assertEqual(read_formula("!a"), ("not", A))
        self.assertEqual(read_formula("mid(a, b, c)"), ("call", "mid", (A, B, C)))
        self.assertEqual(read_formula("a"), ("name", "a"))

    def test_names_in_a_formula(self):
        self.assertEqual(names_in("1 + 2 mm"), [])
        self.assertEqual(names_in("b + a * b"), [(0, "b"), (4, "a"), (8, "b")])
        self.assertEqual(names_in("  min(x1, -y) ? abs(z) : 3in"), [(6, "x1"), (11, "y"), (20, "z")])
        self.assertEqual(names_in("a?b:c"), [(0, "a"), (2, "b"), (4, "c")])

    def test_names_in_what_is_no_formula(self):
        self.assertEqual(refusal(names_in, "a + "), ("InvalidFormula", 4))
        self.assertEqual(refusal(names_in, "a b"), ("InvalidFormula", 2))
        self.assertEqual(refusal(names_in, "a" * 241), ("InvalidFormula", 240))


if __name__ == "__main__":
    unittest.main()
