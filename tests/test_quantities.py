"""Points 10 and 17: quantities, signs and functions."""

import unittest
from fractions import Fraction

from helping import refusal
from partloft.quantities import call, make_quantity, minus, negation, operate

LARGEST = 1000000000


class Point10(unittest.TestCase):
    """A quantity is a fraction in lowest terms within bounds, with a kind from -4 to 4."""

    def test_lowest_terms(self):
        self.assertEqual(make_quantity(6, 4, 1), (3, 2, 1))
        self.assertEqual(make_quantity(-6, 3, 0), (-2, 1, 0))
        self.assertEqual(make_quantity(0, 17, -3), (0, 1, -3))
        self.assertEqual(make_quantity(7, 1, 2), (7, 1, 2))

    def test_negative_denominators(self):
        self.assertEqual(make_quantity(6, -4, 1), (-3, 2, 1))
        self.assertEqual(make_quantity(-6, -4, 1), (3, 2, 1))
        self.assertEqual(make_quantity(0, -5, 0), (0, 1, 0))
        self.assertEqual(make_quantity(1, -LARGEST, 0), (-1, LARGEST, 0))

    def test_numerators_at_and_beyond_the_bounds(self):
        self.assertEqual(make_quantity(LARGEST, 1, 0), (LARGEST, 1, 0))
        self.assertEqual(make_quantity(-LARGEST, 1, 0), (-LARGEST, 1, 0))
        self.assertEqual(refusal(make_quantity, LARGEST + 1, 1, 0), ("Fault", "big"))
        self.assertEqual(refusal(make_quantity, -LARGEST - 1, 1, 0), ("Fault", "big"))
        self.assertEqual(refusal(make_quantity, LARGEST + 1, -1, 0), ("Fault", "big"))

    def test_denominators_at_and_beyond_the_bounds(self):
        self.assertEqual(make_quantity(1, LARGEST, 0), (1, LARGEST, 0))
        self.assertEqual(refusal(make_quantity, 1, LARGEST + 1, 0), ("Fault", "big"))
        self.assertEqual(refusal(make_quantity, 1, -LARGEST - 1, 0), ("Fault", "big"))

    def test_only_the_lowest_terms_are_bounded(self):
        self.assertEqual(make_quantity(2 * LARGEST, 2, 0), (LARGEST, 1, 0))
        self.assertEqual(make_quantity(3, 3 * LARGEST, 0), (1, LARGEST, 0))
        self.assertEqual(make_quantity(0, 10 ** 30, 0), (0, 1, 0))

    def test_kinds_at_and_beyond_the_bounds(self):
        self.assertEqual(make_quantity(1, 1, 4), (1, 1, 4))
        self.assertEqual(make_quantity(1, 1, -4), (1, 1, -4))
        self.assertEqual(refusal(make_quantity, 1, 1, 5), ("Fault", "kinds"))
        self.assertEqual(refusal(make_quantity, 1, 1, -5), ("Fault", "kinds"))

    def test_the_order_of_faults(self):
        self.assertEqual(refusal(make_quantity, 1, 0, 5), ("Fault", "kinds"))
        self.assertEqual(refusal(make_quantity, LARGEST + 1, 0, 0), ("Fault", "zero"))
        self.assertEqual(refusal(make_quantity, 0, 0, 0), ("Fault", "zero"))
        self.assertEqual(refusal(make_quantity, LARGEST + 1, 1, 5), ("Fault", "kinds"))


class Point17Signs(unittest.TestCase):
    """The signs between operands and in front of one."""

    def test_sums_and_differences(self):
        self.assertEqual(operate("+", (1, 2, 1), (1, 3, 1)), (5, 6, 1))
        self.assertEqual(operate("-", (1, 2, -2), (1, 2, -2)), (0, 1, -2))
        self.assertEqual(operate("-", (1, 2, 0), (5, 1, 0)), (-9, 2, 0))
        self.assertEqual(operate("+", (1, 6, 4), (1, 3, 4)), (1, 2, 4))

    def test_products_and_quotients_change_the_kind(self):
        self.assertEqual(operate("*", (2, 3, 1), (3, 4, 2)), (1, 2, 3))
        self.assertEqual(operate("*", (-2, 1, 4), (3, 1, -4)), (-6, 1, 0))
        self.assertEqual(operate("/", (2, 3, 1), (-4, 3, 2)), (-1, 2, -1))
        self.assertEqual(operate("/", (0, 1, 1), (5, 1, 1)), (0, 1, 0))
        self.assertEqual(operate("*", (1, 1, 2), (1, 1, 2)), (1, 1, 4))
        self.assertEqual(operate("/", (1, 1, -2), (1, 1, 2)), (1, 1, -4))

    def test_kinds_beyond_the_bounds(self):
        self.assertEqual(refusal(operate, "*", (1, 1, 3), (1, 1, 2)), ("Fault", "kinds"))
        self.assertEqual(refusal(operate, "*", (1, 1, -3), (1, 1, -2)), ("Fault", "kinds"))
        self.assertEqual(refusal(operate, "/", (1, 1, 3), (1, 1, -2)), ("Fault", "kinds"))
        self.assertEqual(refusal(operate, "/", (1, 1, -3), (1, 1, 2)), ("Fault", "kinds"))

    def test_comparisons(self):
        low, high = (-1, 2, 3), (1, 3, 3)
        wanted = {"==": (0, 0, 1), "!=": (1, 1, 0), "<": (1, 0, 0), "<=": (1, 0, 1), ">": (0, 1, 0), ">=": (0, 1, 1)}
        for sign, answers in wanted.items():
            with self.subTest(sign):
                found = [operate(sign, low, high), operate(sign, high, low), operate(sign, high, high)]
                self.assertEqual(found, [(answer, 1, 0) for answer in answers])

    def test_comparisons_of_near_numbers(self):
        for one in range(-3, 4):
            for other in range(-3, 4):
                left, right = (one, 1, 2), (other, 1, 2)
                wanted = [one == other, one != other, one < other, one <= other, one > other, one >= other]
                found = [operate(sign, left, right) for sign in ("==", "!=", "<", "<=", ">", ">=")]
                self.assertEqual(found, [(int(answer), 1, 0) for answer in wanted])
                self.assertEqual(call("min", [left, right]), (min(one, other), 1, 2))
                self.assertEqual(call("max", [left, right]), (max(one, other), 1, 2))

    def test_the_same_kind_is_needed(self):
        for sign in ("+", "-", "==", "!=", "<", "<=", ">", ">="):
            with self.subTest(sign):
                self.assertEqual(refusal(operate, sign, (1, 1, 0), (1, 1, 1)), ("Fault", "kinds"))
                self.assertEqual(refusal(operate, sign, (0, 1, 2), (0, 1, -2)), ("Fault", "kinds"))

    def test_and_and_or(self):
        true, false = (-1, 3, 0), (0, 1, 0)
        self.assertEqual([operate("&&", a, b)[0] for a in (false, true) for b in (false, true)], [0, 0, 0, 1])
        self.assertEqual([operate("||", a, b)[0] for a in (false, true) for b in (false, true)], [0, 1, 1, 1])
        self.assertEqual(operate("&&", true, true), (1, 1, 0))
        self.assertEqual(operate("||", true, false), (1, 1, 0))

    def test_and_and_or_look_at_both_operands(self):
        length = (1, 1, 1)
        for sign in ("&&", "||"):
            for plain in ((0, 1, 0), (1, 1, 0)):
                with self.subTest((sign, plain)):
                    self.assertEqual(refusal(operate, sign, plain, length), ("Fault", "kinds"))
                    self.assertEqual(refusal(operate, sign, length, plain), ("Fault", "kinds"))
            self.assertEqual(refusal(operate, sign, length, length), ("Fault", "kinds"))

    def test_division_by_zero(self):
        self.assertEqual(refusal(operate, "/", (1, 1, 1), (0, 1, 0)), ("Fault", "zero"))
        self.assertEqual(refusal(operate, "/", (0, 1, 0), (0, 1, 0)), ("Fault", "zero"))

    def test_big_results(self):
        most = (LARGEST, 1, 0)
        self.assertEqual(operate("+", (LARGEST - 1, 1, 0), (1, 1, 0)), most)
        self.assertEqual(refusal(operate, "+", most, (1, 1, 0)), ("Fault", "big"))
        self.assertEqual(refusal(operate, "-", (-LARGEST, 1, 0), (1, 1, 0)), ("Fault", "big"))
        self.assertEqual(refusal(operate, "*", most, (2, 1, 0)), ("Fault", "big"))
        self.assertEqual(refusal(operate, "*", (1, LARGEST, 0), (1, 2, 0)), ("Fault", "big"))
        self.assertEqual(refusal(operate, "/", most, (1, 2, 0)), ("Fault", "big"))
        self.assertEqual(refusal(operate, "+", (1, 99991, 0), (1, 99989, 0)), ("Fault", "big"))

    def test_the_first_of_several_faults(self):
        self.assertEqual(refusal(operate, "/", (1, 1, 4), (0, 1, -1)), ("Fault", "kinds"))
        self.assertEqual(refusal(operate, "*", (LARGEST, 1, 3), (2, 1, 3)), ("Fault", "kinds"))
        self.assertEqual(refusal(operate, "+", (LARGEST, 1, 0), (LARGEST, 1, 1)), ("Fault", "kinds"))
        self.assertEqual(refusal(operate, "/", (LARGEST, 1, 0), (0, 1, 0)), ("Fault", "zero"))

    def test_minus_keeps_the_kind(self):
        self.assertEqual(minus((3, 2, 1)), (-3, 2, 1))
        self.assertEqual(minus((-LARGEST, 1, -4)), (LARGEST, 1, -4))
        self.assertEqual(minus((0, 1, 2)), (0, 1, 2))

    def test_negation_needs_a_plain_number(self):
        self.assertEqual(negation((0, 1, 0)), (1, 1, 0))
        self.assertEqual(negation((-1, 7, 0)), (0, 1, 0))
        self.assertEqual(refusal(negation, (0, 1, 1)), ("Fault", "kinds"))


class Point17Functions(unittest.TestCase):
    """The functions with their kinds and faults."""

    def test_min_and_max(self):
        self.assertEqual(call("min", [(1, 2, 1), (1, 3, 1)]), (1, 3, 1))
        self.assertEqual(call("max", [(1, 2, 1), (1, 3, 1)]), (1, 2, 1))
        self.assertEqual(call("min", [(-1, 2, 0), (-1, 3, 0)]), (-1, 2, 0))
        self.assertEqual(call("max", [(5, 1, 0), (5, 1, 0)]), (5, 1, 0))

    def test_mid_is_the_middle_by_size(self):
        sizes = [(-1, 2, 2), (1, 3, 2), (1, 2, 2)]
        for first, second, third in ((0, 1, 2), (0, 2, 1), (1, 0, 2), (1, 2, 0), (2, 0, 1), (2, 1, 0)):
            self.assertEqual(call("mid", [sizes[first], sizes[second], sizes[third]]), (1, 3, 2))
        self.assertEqual(call("mid", [(2, 1, 0), (1, 1, 0), (2, 1, 0)]), (2, 1, 0))
        self.assertEqual(call("mid", [(2, 1, 0), (1, 1, 0), (1, 1, 0)]), (1, 1, 0))

    def test_the_same_kind_is_needed(self):
        for name in ("min", "max", "mod", "div"):
            with self.subTest(name):
                self.assertEqual(refusal(call, name, [(1, 1, 0), (1, 1, 1)]), ("Fault", "kinds"))
        for odd in range(3):
            kinds = [1 if place == odd else 0 for place in range(3)]
            self.assertEqual(refusal(call, "mid", [(1, 1, kind) for kind in kinds]), ("Fault", "kinds"))

    def test_div_is_the_quotient_rounded_down(self):
        self.assertEqual(call("div", [(7, 1, 1), (2, 1, 1)]), (3, 1, 0))
        self.assertEqual(call("div", [(-7, 1, 1), (2, 1, 1)]), (-4, 1, 0))
        self.assertEqual(call("div", [(7, 1, 0), (-2, 1, 0)]), (-4, 1, 0))
        self.assertEqual(call("div", [(-7, 2, 3), (-1, 2, 3)]), (7, 1, 0))

    def test_mod_is_what_div_leaves(self):
        self.assertEqual(call("mod", [(7, 1, 1), (2, 1, 1)]), (1, 1, 1))
        self.assertEqual(call("mod", [(-7, 1, 1), (2, 1, 1)]), (1, 1, 1))
        self.assertEqual(call("mod", [(7, 1, 0), (-2, 1, 0)]), (-1, 1, 0))
        self.assertEqual(call("mod", [(7, 2, -1), (2, 3, -1)]), (1, 6, -1))

    def test_only_the_result_of_mod_is_asked_for_big(self):
        large, small = (LARGEST, 1, 0), (1, LARGEST, 0)
        self.assertEqual(call("mod", [large, small]), (0, 1, 0))
        self.assertEqual(refusal(call, "div", [large, small]), ("Fault", "big"))
        self.assertEqual(refusal(call, "mod", [(1, 99991, 0), (1, 99989, 0)]), None)
        self.assertEqual(refusal(call, "mod", [(1, 99989, 0), (1, 99991, 0)]), ("Fault", "big"))

    def test_div_and_mod_by_zero(self):
        for name in ("div", "mod"):
            self.assertEqual(refusal(call, name, [(1, 1, 1), (0, 1, 1)]), ("Fault", "zero"))
            self.assertEqual(refusal(call, name, [(1, 1, 1), (0, 1, 0)]), ("Fault", "kinds"))

    def test_whole_numbers_near_a_fraction(self):
        wanted = {
            (-5, 2): (-3, -2, -2), (-3, 2): (-2, -1, -1), (-1, 2): (-1, 0, 0), (1, 2): (0, 1, 1), (3, 2): (1, 2, 2),
            (4, 3): (1, 2, 1), (5, 3): (1, 2, 2), (-4, 3): (-2, -1, -1), (-5, 3): (-2, -1, -2), (2, 1): (2, 2, 2),
            (-2, 1): (-2, -2, -2), (0, 1): (0, 0, 0),
        }
        for (top, bottom), answers in wanted.items():
            with self.subTest((top, bottom)):
                found = [call(name, [(top, bottom, -3)]) for name in ("floor", "ceil", "round")]
                self.assertEqual(found, [(answer, 1, -3) for answer in answers])

    def test_abs_keeps_the_kind_and_sign_does_not(self):
        self.assertEqual(call("abs", [(-3, 2, 2)]), (3, 2, 2))
        self.assertEqual(call("abs", [(3, 2, 2)]), (3, 2, 2))
        self.assertEqual(call("abs", [(-LARGEST, 1, 0)]), (LARGEST, 1, 0))
        found = [call("sign", [(top, 7, 4)]) for top in (-LARGEST, -1, 1)] + [call("sign", [(0, 1, 4)])]
        self.assertEqual(found, [(-1, 1, 0), (-1, 1, 0), (1, 1, 0), (0, 1, 0)])

    def test_sqr(self):
        self.assertEqual(call("sqr", [(-3, 2, 2)]), (9, 4, 4))
        self.assertEqual(call("sqr", [(2, 1, -2)]), (4, 1, -4))
        self.assertEqual(refusal(call, "sqr", [(1, 1, 3)]), ("Fault", "kinds"))
        self.assertEqual(refusal(call, "sqr", [(1, 1, -3)]), ("Fault", "kinds"))
        self.assertEqual(refusal(call, "sqr", [(40000, 1, 0)]), ("Fault", "big"))
        self.assertEqual(refusal(call, "sqr", [(1, 40000, 0)]), ("Fault", "big"))
        self.assertEqual(refusal(call, "sqr", [(40000, 1, 3)]), ("Fault", "kinds"))

    def test_against_fractions(self):
        numbers = [Fraction(top, bottom) for top in range(-5, 6) for bottom in (1, 2, 3)]
        for one in numbers:
            for other in numbers:
                left = (one.numerator, one.denominator, 0)
                right = (other.numerator, other.denominator, 0)
                self.assertEqual(Fraction(*operate("+", left, right)[:2]), one + other)
                self.assertEqual(Fraction(*operate("-", left, right)[:2]), one - other)
                self.assertEqual(Fraction(*operate("*", left, right)[:2]), one * other)
                self.assertEqual(operate("<", left, right)[0], int(one < other))
                if other != 0:
                    self.assertEqual(Fraction(*operate("/", left, right)[:2]), one / other)
                    self.assertEqual(call("div", [left, right])[0], one // other)
                    self.assertEqual(Fraction(*call("mod", [left, right])[:2]), one % other)


class Point3(unittest.TestCase):
    def test_the_list_of_arguments_stays(self):
        arguments = [(3, 1, 0), (1, 1, 0), (2, 1, 0)]
        call("mid", arguments)
        self.assertEqual(arguments, [(3, 1, 0), (1, 1, 0), (2, 1, 0)])


if __name__ == "__main__":
    unittest.main()
