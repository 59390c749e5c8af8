"""Odds [73] [77] [79]."""

import random
import unittest
from fractions import Fraction

from cutorclose.books import checks_of
from cutorclose.errors import NotUsable
from cutorclose.lotsums import lot_sum
from cutorclose.odds import chance_free, chance_full, lack_table
from cutorclose.quotients import minus, summed
from tests import plain
from tests.support import (BOTH, GREAT, GREAT_BOOKS, LONE, ODD_VALUES, RING, RULE_BOOKS, STAR, WIDE, Case, lots_of, quotient, quotients,
                           refusal)
from tests.test_leavings import EIGHT
from tests.test_rules import NO_QUOTIENTS

HALF = ((1, 2),) * 3
CHANCES = [Fraction(0), Fraction(1), Fraction(1, 2), Fraction(1, 3), Fraction(3, 5)]
BOOKS = (*RULE_BOOKS, *GREAT_BOOKS, *EIGHT[:3])

# What are no odds of three places.
BAD_ODDS = (*ODD_VALUES, (), HALF[:2], (*HALF, HALF[0]), list(HALF), *[(*HALF[:2], bad) for bad in NO_QUOTIENTS],
            *[(bad, *HALF[:2]) for bad in ((3, 2), (-1, 2), (2, 1), (-1, 1), (GREAT, GREAT - 1), (-1, GREAT), 0, "1/2", (1, 2, 3))])


def odds_of(size, salt=0):
    """Some odds of a size, the same ones each time, as fractions."""
    dice = random.Random(f"{size} {salt} odds")
    return [[dice.choice(CHANCES) for _ in range(size)], [dice.choice(CHANCES[2:]) for _ in range(size)], [Fraction(1)] * size,
            [Fraction(0)] * size]


def chances(book, odds):
    """For each lot its lack of rank, its size above its rank, and its chance."""
    whole = plain.rank(book, range(book[1]))
    for lot in lots_of(book[1]):
        rank = plain.rank(book, lot)
        yield whole - rank, len(lot) - rank, plain.lot_chance(odds, lot)


class Odds(Case):
    def test_by_all_lots(self):
        for book in BOOKS:
            for odds in odds_of(book[1])[:2 if book[1] > 4 else 4]:
                told, each = list(chances(book, odds)), quotients(odds)
                self.exact(chance_full(book, each), quotient(sum((c for lack, _, c in told if lack == 0), Fraction(0))))
                self.exact(chance_free(book, each), quotient(sum((c for _, extra, c in told if extra == 0), Fraction(0))))
                table = tuple(tuple(quotient(sum((c for lack, extra, c in told if (lack, extra) == (l, s)), Fraction(0)))
                                    for s in range(book[1] - len(book[2]) + 1)) for l in range(len(book[2]) + 1))
                self.exact(lack_table(book, each), table)

    def test_nought_and_one(self):
        for book in (*RULE_BOOKS, *GREAT_BOOKS):
            size, rank = book[1], len(book[2])
            self.exact(chance_full(book, ((1, 1),) * size), (1, 1))
            self.exact(chance_free(book, ((0, 1),) * size), (1, 1))
            self.exact(chance_full(book, ((0, 1),) * size), (int(rank == 0), 1))
            self.exact(chance_free(book, ((1, 1),) * size), (int(rank == size), 1))
            self.exact(lack_table(book, ((1, 1),) * size)[0][-1], (1, 1))
            self.exact(lack_table(book, ((0, 1),) * size)[-1][0], (1, 1))

    def test_no_places(self):
        for prime in (2, 3, 5, 7):
            book = (prime, 0, ())
            self.exact((chance_full(book, ()), chance_free(book, ()), lack_table(book, ())), ((1, 1), (1, 1), (((1, 1),),)))
        self.exact(lack_table((2, 2, ()), HALF[:2]), (((1, 4), (1, 2), (1, 4)),))
        self.exact(lack_table((2, 1, ((1,),)), ((1, 3),)), (((1, 3),), ((2, 3),)))

    def test_each_place_has_its_own(self):
        odds = ((1, 2), (1, 3), (1, 5))
        self.exact(chance_full(STAR, odds), quotient(1 - Fraction(1, 2) * Fraction(2, 3) * Fraction(4, 5)))
        self.exact(chance_free(RING, odds), quotient(1 - Fraction(1, 30)))
        self.exact(chance_full((2, 3, ((0, 1, 0),)), odds), (1, 3))
        self.exact(chance_free((2, 3, ((1, 0, 0), (0, 1, 0))), odds), (4, 5))

    def test_long_quotients(self):
        odds = ((1, GREAT),) * 8
        self.exact(chance_full((2, 8, EIGHT[3][2]), odds), (1, GREAT ** 8))
        self.exact(chance_free((2, 8, ()), odds), ((GREAT - 1) ** 8, GREAT ** 8))

    def test_refused(self):
        for call in (chance_full, chance_free, lack_table):
            for bad in BAD_ODDS:
                self.refused(NotUsable, refusal("odds"), call, RING, bad)
            self.refused(NotUsable, refusal("odds"), call, (2, 0, ()), HALF[:1])


class Consequences(Case):
    def test_they_are_sums_over_all_lots(self):
        for book in (*RULE_BOOKS, BOTH, WIDE, LONE):
            for odds in map(quotients, odds_of(book[1], "sums")):
                pairs = tuple((each, minus((1, 1), each)) for each in odds)
                self.exact(chance_full(book, odds), lot_sum(book, pairs, ((0, 1), (1, 1))))
                self.exact(chance_free(book, odds), lot_sum(book, pairs, ((1, 1), (0, 1))))

    def test_the_table(self):
        for book in (*RULE_BOOKS, *GREAT_BOOKS):
            for odds in map(quotients, odds_of(book[1], "table")[:2]):
                table = lack_table(book, odds)
                self.exact([len(row) for row in table], [book[1] - len(book[2]) + 1] * (len(book[2]) + 1))
                self.exact(summed([chance for row in table for chance in row]), (1, 1))
                self.exact(summed(list(table[0])), chance_full(book, odds))
                self.exact(summed([row[0] for row in table]), chance_free(book, odds))

    def test_of_the_checks(self):
        # Free in the one is full in the other, for the places that go.
        for book in RULE_BOOKS:
            for odds in map(quotients, odds_of(book[1], "checks")):
                gone = tuple(minus((1, 1), each) for each in odds)
                self.exact(chance_free(book, odds), chance_full(checks_of(book), gone))


if __name__ == "__main__":
    unittest.main()
