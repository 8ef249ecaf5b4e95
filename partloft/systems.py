"""Systems of linear equations with integers.

The unknowns have numbers from 0. An equation is a list: the coefficient of each
unknown, and then the right side.
"""

from math import gcd

from partloft.ratios import lowest_terms


class System:
    """Equations that are required together.

    They are kept so that no two of them have the same last unknown. So an
    unknown with an equation of its own follows from the unknowns before it, and
    any other one is free when those before it are known.
    """

    def __init__(self):
        self._by_last = {}
        self._can_hold = True

    def can_hold(self):
        """True if there are numbers for which all equations hold."""
        return self._can_hold

    def require(self, coefficients, right):
        """Takes one more equation in."""
        row = self._rest(coefficients, right)
        last = _last_unknown(row)
        if last is not None:
            self._by_last[last] = row
        elif row[-1] != 0:
            self._can_hold = False

    def implies(self, coefficients, right):
        """True if an equation holds wherever the others hold."""
        if not self._can_hold:
            return True
        row = self._rest(coefficients, right)
        return row[-1] == 0 and _last_unknown(row) is None

    def number_of(self, unknown, numbers):
        """The number of an unknown by those of all unknowns before it; None if it is free."""
        if unknown not in self._by_last:
            return None
        row = self._by_last[unknown]
        top = row[-1]
        bottom = 1
        for coefficient, (numerator, denominator) in zip(row, numbers):
            top = top * denominator - coefficient * numerator * bottom
            bottom = bottom * denominator
        return lowest_terms(top, bottom * row[unknown])

    def _rest(self, coefficients, right):
        """What is left of an equation when the others are taken off it."""
        row = [*coefficients, right]
        for unknown in reversed(range(len(row) - 1)):
            if row[unknown] != 0:
                if unknown not in self._by_last:
                    return row
                row = _without(row, self._by_last[unknown], unknown)
        return row


def _last_unknown(row):
    """The last unknown of an equation, or None if it has none."""
    for unknown in reversed(range(len(row) - 1)):
        if row[unknown] != 0:
            return unknown
    return None


def _without(row, other, unknown):
    """An equation less so many times another one that it loses an unknown."""
    shared = gcd(row[unknown], other[unknown])
    times = other[unknown] // shared
    off = row[unknown] // shared
    found = [times * one - off * two for one, two in zip(row, other)]
    # Without common factors the numbers stay small.
    common = 0
    for number in found:
        common = gcd(common, number)
    return [number // common for number in found] if common > 1 else found
