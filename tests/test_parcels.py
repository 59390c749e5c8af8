"""Parcels of lots, by an order [73] [80] [82]."""

import itertools
import unittest
from fractions import Fraction

from cutorclose.books import checks_of
from cutorclose.errors import NotUsable
from cutorclose.lots import bases_of, kind_at
from cutorclose.lotsums import lot_term
from cutorclose.parcels import parcel_with, parcels_of, parcels_worth
from cutorclose.quotients import summed
from cutorclose.reckoning import worth_by
from cutorclose.tyings import tie_of
from tests import plain
from tests.support import (BAD_ORDERS, BAD_RULES, BOTH, FOUR, GREAT_BOOKS, LONE, ODD, RING, RULE_BOOKS, SMALL_BOOKS, STAR, WIDE, Case, lots_of,
                           quotient, refusal, rules_of)
from tests.test_leavings import EIGHT
from tests.test_lots import BAD_LOTS

# For each book all orders of three places at most, and some of more.
CASES = [(book, order) for book in SMALL_BOOKS
         for order in list(itertools.permutations(range(book[1])))[::5 if book[1] > 3 else 1]]
GREAT = [(book, order) for book in (*GREAT_BOOKS, *EIGHT[:3])
         for order in (tuple(range(book[1])), tuple(reversed(range(book[1]))), (*range(1, book[1], 2), *range(0, book[1], 2)))]


def triple_worth(triple, rule):
    """What the triple gives, by the words of the document."""
    basis, lone, idle = triple
    result = Fraction(1)
    for place, (closed, cut, alone, its_idle) in enumerate(plain.fours(rule)):
        if place in lone:
            result *= alone
        elif place in basis:
            result *= closed
        elif place in idle:
            result *= its_idle
        else:
            result *= cut
    return result


class Parcels(Case):
    def test_by_the_words_of_the_document(self):
        for book, order in (*CASES, *GREAT):
            told = parcels_of(book, order)
            self.exact(told, plain.parcels(book, order))
            self.exact(tuple(triple[0] for triple in told), bases_of(book))

    def test_each_lot_stands_in_just_one(self):
        for book, order in (*CASES[::2], *GREAT[::3]):
            lots = [(lot, triple) for triple in parcels_of(book, order) for lot in plain.parcel_lots(triple, book[1])]
            self.assertEqual(sorted(lot for lot, _ in lots), sorted(lots_of(book[1])))
            for lot, triple in lots:
                self.exact(parcel_with(book, order, lot), triple)

    def test_no_places_and_edges(self):
        for prime in (2, 3, 5, 7):
            book = (prime, 0, ())
            self.exact((parcels_of(book, ()), parcel_with(book, (), ()), parcels_worth(book, (), ())),
                       ((((), (), ()),), ((), (), ()), (1, 1)))
        self.exact(parcels_of((2, 2, ()), (1, 0)), (((), (), (0, 1)),))
        self.exact(parcels_of((2, 2, ((1, 0), (0, 1))), (1, 0)), (((0, 1), (0, 1), ()),))
        self.exact(parcels_of(LONE, (3, 2, 1, 0)), (((0, 1), (0, 1), (3,)), ((0, 2), (0,), (1, 3))))
        self.exact(parcel_with(LONE, (3, 2, 1, 0), (3,)), ((0, 1), (0, 1), (3,)))
        self.exact(parcel_with(LONE, (3, 2, 1, 0), (1, 2, 3)), ((0, 2), (0,), (1, 3)))

    def test_worths(self):
        for book, order in CASES:
            for rule in rules_of(book[1], 1, "parcels")[::4]:
                told = parcels_worth(book, order, rule)
                self.exact(told, quotient(sum((triple_worth(triple, rule) for triple in plain.parcels(book, order)), Fraction(0))))
                self.exact(told, quotient(plain.worth_by(book, rule, order)))

    def test_refused_in_order(self):
        for bad in BAD_ORDERS:
            self.refused(NotUsable, refusal("order"), parcels_of, RING, bad)
            self.refused(NotUsable, refusal("order"), parcel_with, RING, bad, (0,))
            self.refused(NotUsable, refusal("order"), parcel_with, RING, bad, None)
            self.refused(NotUsable, refusal("order"), parcels_worth, RING, bad, ODD)
            self.refused(NotUsable, refusal("order"), parcels_worth, RING, bad, None)
        for bad in BAD_LOTS:
            self.refused(NotUsable, refusal("lot"), parcel_with, RING, (0, 1, 2), bad)
        for bad in BAD_RULES:
            self.refused(NotUsable, refusal("rule"), parcels_worth, RING, (0, 1, 2), bad)
        self.refused(NotUsable, refusal("order"), parcels_of, (2, 0, ()), (0,))


class Consequences(Case):
    def test_the_worth_by_the_order(self):
        for book in RULE_BOOKS:
            orders = list(itertools.permutations(range(book[1])))[::7 if book[1] > 3 else 2]
            for rule in rules_of(book[1], 1, "by the order")[::3]:
                for order in orders:
                    self.exact(parcels_worth(book, order, rule), worth_by(book, rule, order))
        for book, order in GREAT:
            for rule in rules_of(book[1], 1, "great orders")[:2]:
                self.exact(parcels_worth(book, order, rule), worth_by(book, rule, order))

    def test_the_first_place(self):
        for book, order in (*CASES, *GREAT):
            if order:
                kind = kind_at(book, order[0])
                for _, lone, idle in parcels_of(book, order):
                    self.exact(order[0] in lone, kind == "alone")
                    self.exact(order[0] in idle, kind == "idle")

    def test_the_lots_of_one_parcel(self):
        met = 0
        for book, order in (*CASES[::3], (RING, (1, 0, 2)), (STAR, (2, 0, 1)), (WIDE, (3, 1, 2, 0)), (BOTH, (5, 0, 3, 1, 4, 2))):
            for rule in (*rules_of(book[1], 1, "one parcel"), (FOUR,) * book[1]):
                tie = tie_of(rule, tuple(range(book[1])))
                if tie is None:
                    continue
                tie = tuple((3, 2) if each == "any" else each for each in tie)
                pairs = tuple(four[:2] for four in rule)
                for triple in parcels_of(book, order):
                    told = summed([lot_term(book, pairs, tie, lot) for lot in plain.parcel_lots(triple, book[1])])
                    self.exact(told, quotient(triple_worth(triple, rule)))
                    met += 1
        self.assertGreater(met, 200)

    def test_the_checks(self):
        for book, order in (*CASES, *GREAT):
            wanted = tuple(sorted((plain.others(book[1], basis), idle, lone) for basis, lone, idle in parcels_of(book, order)))
            self.exact(parcels_of(checks_of(book), order), wanted)


if __name__ == "__main__":
    unittest.main()
