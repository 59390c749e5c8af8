"""Prices [73] [78] [79]."""

import random
import unittest
from fractions import Fraction

from cutorclose.books import checks_of
from cutorclose.errors import NotUsable
from cutorclose.lots import bases_of
from cutorclose.lotsums import lot_sum
from cutorclose.prices import bases_sum, best_bases
from tests import plain
from tests.support import (BOTH, GREAT, GREAT_BOOKS, LONE, NUMBERS, ODD_VALUES, RING, RULE_BOOKS, STAR, WIDE, Case, quotient, quotients,
                           refusal)
from tests.test_leavings import EIGHT
from tests.test_rules import NO_QUOTIENTS

PRICES = ((1, 1), (2, 1), (5, 1))
BAD_PRICES = (*ODD_VALUES, (), PRICES[:2], (*PRICES, PRICES[0]), list(PRICES), *[(*PRICES[:2], bad) for bad in NO_QUOTIENTS],
              *[(bad, *PRICES[:2]) for bad in NO_QUOTIENTS])


def prices_of(size, salt=0):
    """Some prices of a size, the same ones each time, as fractions, also below nought."""
    dice = random.Random(f"{size} {salt} prices")
    few = [Fraction(1), Fraction(2), Fraction(-1, 2)]
    return [[dice.choice(NUMBERS) for _ in range(size)], [dice.choice(few) for _ in range(size)], [Fraction(-3, 2)] * size]


def product(numbers):
    result = Fraction(1)
    for number in numbers:
        result *= number
    return result


class Prices(Case):
    def test_by_all_bases(self):
        for book in (*RULE_BOOKS, *GREAT_BOOKS, *EIGHT[:3]):
            bases = plain.bases(book)
            for prices in prices_of(book[1]):
                each = quotients(prices)
                told = [[prices[place] for place in basis] for basis in bases]
                self.exact(bases_sum(book, each), quotient(sum(map(product, told), Fraction(0))))
                greatest = max(sum(its, Fraction(0)) for its in told)
                self.exact(best_bases(book, each), tuple(basis for basis, its in zip(bases, told) if sum(its) == greatest))

    def test_edges(self):
        for prime in (2, 3, 5, 7):
            self.exact((bases_sum((prime, 0, ()), ()), best_bases((prime, 0, ()), ())), ((1, 1), ((),)))
        self.exact((bases_sum((2, 2, ()), PRICES[:2]), best_bases((2, 2, ()), ((-3, 1), (4, 1)))), ((1, 1), ((),)))
        whole = (5, 2, ((1, 0), (0, 1)))
        self.exact((bases_sum(whole, ((-3, 1), (1, 2))), best_bases(whole, ((-3, 1), (1, 2)))), ((-3, 2), ((0, 1),)))
        # Prices below nought: the greatest sum is the one that is least below it.
        self.exact(best_bases(STAR, ((-3, 1), (-1, 2), (-2, 3))), ((1,),))
        self.exact(best_bases(RING, ((-3, 1), (-1, 2), (-2, 3))), ((1, 2),))
        # All that come to the greatest sum, ascending; a basis has to have them.
        self.exact(best_bases(RING, ((2, 1), (1, 1), (2, 1))), ((0, 2),))
        self.exact(best_bases(RING, ((1, 1), (2, 1), (1, 1))), ((0, 1), (1, 2)))
        self.exact(best_bases(STAR, ((0, 1),) * 3), ((0,), (1,), (2,)))
        self.exact(best_bases(LONE, ((-9, 1), (1, 1), (2, 1), (9, 1))), ((0, 2),))
        # By quotients, not by their tops or bottoms.
        self.exact(best_bases(STAR, ((1, 2), (2, 5), (3, 7))), ((0,),))
        self.exact(best_bases(STAR, ((GREAT, GREAT - 1), (1, 1), (GREAT - 1, GREAT - 2))), ((2,),))
        self.exact(bases_sum(RING, ((1, 2), (1, 3), (1, 5))), quotient(Fraction(1, 6) + Fraction(1, 10) + Fraction(1, 15)))

    def test_refused(self):
        for call in (bases_sum, best_bases):
            for bad in BAD_PRICES:
                self.refused(NotUsable, refusal("prices"), call, RING, bad)
            self.refused(NotUsable, refusal("prices"), call, (2, 0, ()), PRICES[:1])


class Consequences(Case):
    def test_they_are_sums_over_all_lots(self):
        for book in (*RULE_BOOKS, BOTH, WIDE, LONE):
            for prices in map(quotients, prices_of(book[1], "sums")):
                pairs = tuple((each, (1, 1)) for each in prices)
                self.exact(bases_sum(book, prices), lot_sum(book, pairs, ((0, 1), (0, 1))))

    def test_bases_of_the_checks(self):
        for book in (*RULE_BOOKS, *GREAT_BOOKS):
            wanted = tuple(sorted(plain.others(book[1], basis) for basis in bases_of(book)))
            self.exact(bases_of(checks_of(book)), wanted)
            if book[1] < 5:
                self.exact(plain.bases(plain.checks(book)), wanted)
            prices = quotients(prices_of(book[1], "best")[0])
            others = tuple((-top, bottom) for top, bottom in prices)
            best = tuple(sorted(plain.others(book[1], basis) for basis in best_bases(book, prices)))
            self.exact(best_bases(checks_of(book), others), best)


if __name__ == "__main__":
    unittest.main()
