"""Quantities: exact fractions, each with a power of length."""

from partloft.errors import Fault
from partloft.ratios import lowest_terms

LARGEST = 1000000000
LARGEST_KIND = 4


def make_quantity(numerator, denominator, kind):
    """The quantity of a fraction in lowest terms; raises Fault."""
    if not -LARGEST_KIND <= kind <= LARGEST_KIND:
        raise Fault("kinds")
    if denominator == 0:
        raise Fault("zero")
    top, bottom = lowest_terms(numerator, denominator)
    if abs(top) > LARGEST or bottom > LARGEST:
        raise Fault("big")
    return (top, bottom, kind)


def operate(sign, left, right):
    """The quantity of a sign between two quantities; raises Fault."""
    if sign == "*":
        return _product(left, right)
    if sign == "/":
        return _quotient(left, right)
    if sign == "&&" or sign == "||":
        return _joined(sign, left, right)
    _check_same_kind(left, right)
    if sign == "+":
        return _sum(left, right)
    if sign == "-":
        return _sum(left, minus(right))
    return _truth(_holds(sign, _excess(left, right)))


def minus(quantity):
    """The quantity with the opposite sign."""
    return make_quantity(-quantity[0], quantity[1], quantity[2])


def negation(quantity):
    """1 if a plain number is 0, otherwise 0; raises Fault."""
    return _truth(not _is_true(quantity))


def call(function, arguments):
    """The quantity of a function for a list of quantities; raises Fault."""
    work = FUNCTIONS[function]
    return work(*arguments)


def _truth(holds):
    return (1, 1, 0) if holds else (0, 1, 0)


def _is_true(quantity):
    if quantity[2] != 0:
        raise Fault("kinds")
    return quantity[0] != 0


def _check_same_kind(left, right):
    if left[2] != right[2]:
        raise Fault("kinds")


def _excess(left, right):
    """A number with the sign of left - right."""
    return left[0] * right[1] - right[0] * left[1]


def _holds(sign, excess):
    if sign == "==":
        return excess == 0
    if sign == "!=":
        return excess != 0
    if sign == "<":
        return excess < 0
    if sign == "<=":
        return excess <= 0
    if sign == ">":
        return excess > 0
    return excess >= 0


def _joined(sign, left, right):
    """Both operands are looked at, whatever the first one is."""
    first = _is_true(left)
    second = _is_true(right)
    if sign == "&&":
        return _truth(first and second)
    return _truth(first or second)


def _sum(left, right):
    top = left[0] * right[1] + right[0] * left[1]
    return make_quantity(top, left[1] * right[1], left[2])


def _product(left, right):
    return make_quantity(left[0] * right[0], left[1] * right[1], left[2] + right[2])


def _quotient(left, right):
    return make_quantity(left[0] * right[1], left[1] * right[0], left[2] - right[2])


def _lesser(left, right):
    _check_same_kind(left, right)
    return left if _excess(left, right) <= 0 else right


def _greater(left, right):
    _check_same_kind(left, right)
    return left if _excess(left, right) >= 0 else right


def _middle(first, second, third):
    low = _lesser(first, second)
    high = _greater(first, second)
    return _greater(low, _lesser(high, third))


def _whole_quotient(left, right):
    """The whole number of left / right, which may be beyond all bounds."""
    _check_same_kind(left, right)
    if right[0] == 0:
        raise Fault("zero")
    return (left[0] * right[1]) // (left[1] * right[0])


def _divided(left, right):
    return make_quantity(_whole_quotient(left, right), 1, 0)


def _remainder(left, right):
    times = _whole_quotient(left, right)
    top = left[0] * right[1] - times * right[0] * left[1]
    return make_quantity(top, left[1] * right[1], left[2])


def _without_sign(quantity):
    return (abs(quantity[0]), quantity[1], quantity[2])


def _rounded_down(quantity):
    return (quantity[0] // quantity[1], 1, quantity[2])


def _rounded_up(quantity):
    return (-(-quantity[0] // quantity[1]), 1, quantity[2])


def _rounded(quantity):
    return ((2 * quantity[0] + quantity[1]) // (2 * quantity[1]), 1, quantity[2])


def _signum(quantity):
    if quantity[0] == 0:
        return (0, 1, 0)
    return (1, 1, 0) if quantity[0] > 0 else (-1, 1, 0)


def _square(quantity):
    return _product(quantity, quantity)


FUNCTIONS = {
    "min": _lesser,
    "max": _greater,
    "mod": _remainder,
    "div": _divided,
    "mid": _middle,
    "abs": _without_sign,
    "floor": _rounded_down,
    "ceil": _rounded_up,
    "round": _rounded,
    "sign": _signum,
    "sqr": _square,
}
