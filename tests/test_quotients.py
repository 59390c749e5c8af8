"""Sums, differences, products, quotients and powers of quotients [3] [13] [15]."""

import itertools
import unittest
from fractions import Fraction

from cutorclose.errors import NotUsable
from cutorclose.quotients import minus, over, plus, raised, times
from tests.support import GREAT, Case

SOME = sorted({(f.numerator, f.denominator) for f in (Fraction(a, b) for a in range(-4, 5) for b in range(1, 5))})
SOME += [(GREAT, GREAT - 1), (-GREAT, 2), (1, GREAT)]
NONE = (None, True, 1, 0, "1", (), (1,), (1, 0), (2, 4), (0, 2), (1, -1), (True, 1), (1, True), [1, 1], (1, 1, 1), ((1, 1), 1))


def pair(fraction):
    return (fraction.numerator, fraction.denominator)


class Quotients(Case):
    def test_like_fractions(self):
        for one, other in itertools.product(SOME, repeat=2):
            a, b = Fraction(*one), Fraction(*other)
            self.exact(plus(one, other), pair(a + b))
            self.exact(minus(one, other), pair(a - b))
            self.exact(times(one, other), pair(a * b))
            if b:
                self.exact(over(one, other), pair(a / b))

    def test_powers(self):
        for one in SOME:
            for many in (*range(8), 39, 40, 43):
                self.exact(raised(one, many), pair(Fraction(*one) ** many))
        self.exact(raised((0, 1), 0), (1, 1))

    def test_a_thousand_figures(self):
        great = (10 ** 499 + 1, 10 ** 499)
        self.exact(times(great, great), ((10 ** 499 + 1) ** 2, 10 ** 998))
        self.exact(over(great, great), (1, 1))

    def test_refused_in_order(self):
        for call in (plus, minus, times, over):
            for bad in NONE:
                self.refused(NotUsable, {"word": "one", "at": -1}, call, bad, (1, 1))
                self.refused(NotUsable, {"word": "other", "at": -1}, call, (1, 1), bad)
                self.refused(NotUsable, {"word": "one", "at": -1}, call, bad, bad)

    def test_nothing_is_divided_by_nought(self):
        for one in SOME:
            self.refused(NotUsable, {"word": "other", "at": -1}, over, one, (0, 1))
        self.refused(NotUsable, {"word": "one", "at": -1}, over, (2, 2), (0, 1))

    def test_powers_refused(self):
        for bad in NONE:
            self.refused(NotUsable, {"word": "one", "at": -1}, raised, bad, 2)
            self.refused(NotUsable, {"word": "one", "at": -1}, raised, bad, -1)
        for bad in (-1, True, False, None, "2", (2,), (2, 1), [2]):
            self.refused(NotUsable, {"word": "many", "at": -1}, raised, (1, 2), bad)


if __name__ == "__main__":
    unittest.main()
