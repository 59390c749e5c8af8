"""Sums over all lots, tied rules, and what follows [10] [11] [53] [54] [56]."""

import itertools
import unittest
from fractions import Fraction

from cutorclose.books import beside, checks_of
from cutorclose.errors import NotUsable
from cutorclose.fitting import fits, worth_of
from cutorclose.lots import bases_of
from cutorclose.lotsums import lot_sum, lot_term, tied_rule
from cutorclose.quotients import multiplied, plus, summed, times
from cutorclose.rulekinds import is_rule, rule_of_checks
from tests import plain
from tests.support import (BOTH, FOUR, GREAT_BOOKS, NUMBERS, RING, RULE_BOOKS, STAR, WIDE, Case, lots_of, quotient, quotients, rules_of)
from tests.test_leavings import EIGHT
from tests.test_lots import BAD_LOTS

ONES = (((1, 1), (1, 1)),) * 3
TIE = ((2, 1), (1, 1))
NOUGHT = (0, 1)
SOME = sorted(set(NUMBERS))
TIES = [quotients(each) for each in itertools.product(SOME, repeat=2)]

# What is no pair of quotients.
NO_PAIRS = (None, True, 1, "any", (), ((2, 1),), ((2, 1), (1, 1), (1, 1)), [(2, 1), (1, 1)], ((2, 1), 1), ((2, 1), None),
            ((4, 2), (1, 1)), ((2, 1), (0, 2)), ((2, 1), (1, 0)), ((2, 1), (1, -1)), ((True, 1), (1, 1)), ((2, 1), (1, True)),
            ((2, 1), [1, 1]), ((2, 1), "any"), (2, 1))
BAD_PAIRS = (None, True, 3, "pairs", [], list(ONES), ((1, 1), (1, 1), (1, 1)), *[(*ONES[:2], bad) for bad in NO_PAIRS],
             *[(bad, *ONES[:2]) for bad in NO_PAIRS])


def refusal(word):
    return {"word": word, "at": -1}


def pairs_of(rule):
    return tuple(four[:2] for four in rule)


class Sums(Case):
    def test_by_their_definition(self):
        for book in RULE_BOOKS:
            for k, rule in enumerate(rules_of(book[1], 1, "sums")):
                for tie in TIES[k::13]:
                    wanted = plain.tie_sum(book, rule, Fraction(*tie[0]), Fraction(*tie[1]))
                    self.exact(lot_sum(book, pairs_of(rule), tie), quotient(wanted))

    def test_terms(self):
        for book in RULE_BOOKS[::2]:
            pairs = pairs_of(rules_of(book[1], 1, "terms")[0])
            for tie in TIES[::7]:
                terms = [lot_term(book, pairs, tie, lot) for lot in lots_of(book[1])]
                self.exact(lot_sum(book, pairs, tie), summed(terms))

    def test_each_term(self):
        pairs = (((2, 1), (3, 1)), ((5, 1), (7, 1)), ((11, 1), (13, 1)))
        tie = ((17, 1), (19, 1))
        self.exact(lot_term(RING, pairs, tie, ()), (3 * 7 * 13 * 17 ** 2, 1))
        self.exact(lot_term(RING, pairs, tie, (1,)), (3 * 5 * 13 * 17, 1))
        self.exact(lot_term(RING, pairs, tie, (0, 2)), (2 * 7 * 11, 1))
        self.exact(lot_term(RING, pairs, tie, (0, 1, 2)), (2 * 5 * 11 * 19, 1))
        self.exact(lot_term(STAR, pairs, tie, (0, 1, 2)), (2 * 5 * 11 * 19 ** 2, 1))
        self.exact(lot_term((3, 3, ()), pairs, tie, (0,)), (2 * 7 * 13 * 19, 1))
        self.exact(lot_term((2, 0, ()), (), tie, ()), (1, 1))

    def test_nought_to_the_power_nought(self):
        none = (NOUGHT, NOUGHT)
        for tie in TIES:
            self.exact(lot_sum((5, 0, ()), (), tie), (1, 1))
            self.exact(lot_term((5, 0, ()), (), tie, ()), (1, 1))
        self.exact(lot_sum(RING, (none,) * 3, TIE), NOUGHT)
        self.exact(lot_sum(RING, ONES, none), (3, 1))
        self.exact(lot_sum((2, 3, ()), ONES, none), (1, 1))
        self.exact(lot_sum((2, 2, ((1, 0), (0, 1))), ONES[:2], none), (1, 1))
        self.exact(lot_term(RING, ONES, none, (0, 2)), (1, 1))
        self.exact(lot_term(RING, ONES, none, (0, 1, 2)), NOUGHT)

    def test_greater_books(self):
        for book in (*GREAT_BOOKS, *EIGHT[:3]):
            rule = rules_of(book[1], 1, "greater")[0]
            wanted = plain.tie_sum(book, rule, Fraction(3, 2), Fraction(-2))
            self.exact(lot_sum(book, pairs_of(rule), ((3, 2), (-2, 1))), quotient(wanted))

    def test_tied_rule(self):
        for size in range(5):
            for rule, tie in zip(rules_of(size, 4, "tied"), itertools.cycle(TIES)):
                told = tied_rule(pairs_of(rule), tie)
                self.assertTrue(is_rule(size, told))
                self.exact(pairs_of(told), pairs_of(rule))
                self.assertTrue(plain.tie_holds(told, Fraction(*tie[0]), Fraction(*tie[1]), range(size)))
        self.exact(tied_rule((((2, 1), (3, 1)),), ((5, 1), (7, 1))), (((2, 1), (3, 1), (17, 1), (17, 1)),))
        self.exact(tied_rule((((2, 1), (3, 1)),), ((0, 1), (7, 1))), (((2, 1), (3, 1), (2, 1), (17, 1)),))
        self.exact(tied_rule((((2, 1), (3, 1)),), ((-1, 2), (0, 1))), (((2, 1), (3, 1), (1, 2), (3, 1)),))


class Refused(Case):
    def test_in_order(self):
        for bad in (*BAD_PAIRS, (), ONES[:2], (*ONES, ONES[0])):
            self.refused(NotUsable, refusal("pairs"), lot_sum, RING, bad, TIE)
            self.refused(NotUsable, refusal("pairs"), lot_sum, RING, bad, None)
            self.refused(NotUsable, refusal("pairs"), lot_term, RING, bad, TIE, ())
            self.refused(NotUsable, refusal("pairs"), lot_term, RING, bad, None, None)
        for bad in NO_PAIRS:
            self.refused(NotUsable, refusal("tie"), lot_sum, RING, ONES, bad)
            self.refused(NotUsable, refusal("tie"), lot_term, RING, ONES, bad, ())
            self.refused(NotUsable, refusal("tie"), lot_term, RING, ONES, bad, None)
        for bad in BAD_LOTS:
            self.refused(NotUsable, refusal("lot"), lot_term, RING, ONES, TIE, bad)

    def test_tied_rule(self):
        for bad in BAD_PAIRS:
            self.refused(NotUsable, refusal("pairs"), tied_rule, bad, TIE)
            self.refused(NotUsable, refusal("pairs"), tied_rule, bad, None)
        for bad in NO_PAIRS:
            self.refused(NotUsable, refusal("tie"), tied_rule, ONES, bad)
            self.refused(NotUsable, refusal("tie"), tied_rule, (), bad)

    def test_no_places(self):
        self.refused(NotUsable, refusal("pairs"), lot_sum, (2, 0, ()), [], TIE)
        self.refused(NotUsable, refusal("pairs"), lot_sum, (2, 0, ()), ONES[:1], TIE)
        self.refused(NotUsable, refusal("tie"), lot_sum, (2, 0, ()), (), ())
        self.refused(NotUsable, refusal("lot"), lot_term, (2, 0, ()), (), TIE, (0,))


class Guarantees(Case):
    def test_the_sum_is_the_worth(self):
        for book in (*RULE_BOOKS, BOTH, WIDE):
            for k, rule in enumerate(rules_of(book[1], 1, "worth")):
                for tie in TIES[k::17]:
                    tied = tied_rule(pairs_of(rule), tie)
                    self.exact(fits(book, tied), True)
                    self.exact(worth_of(book, tied), lot_sum(book, pairs_of(rule), tie))

    def test_the_sum_of_the_checks(self):
        for book in (*RULE_BOOKS, BOTH, WIDE):
            for k, rule in enumerate(rules_of(book[1], 1, "checks")):
                exchanged = tuple((cut, closed) for closed, cut in pairs_of(rule))
                for u, v in TIES[k::17]:
                    self.exact(lot_sum(checks_of(book), exchanged, (v, u)), lot_sum(book, pairs_of(rule), (u, v)))
                self.exact(fits(checks_of(book), rule_of_checks(rule)), fits(book, rule))


class WhatFollows(Case):
    def test_the_tie_of_ones(self):
        for book in (*RULE_BOOKS, *GREAT_BOOKS):
            pairs = pairs_of(rules_of(book[1], 1, "ones")[0])
            self.exact(lot_sum(book, pairs, ((1, 1), (1, 1))), multiplied([plus(closed, cut) for closed, cut in pairs]))

    def test_the_tie_of_noughts_is_for_bases_only(self):
        for book in (*RULE_BOOKS, *GREAT_BOOKS):
            pairs = pairs_of((FOUR,) * book[1])
            lots = lots_of(book[1])
            giving = [lot for lot in lots if lot_term(book, pairs, (NOUGHT, NOUGHT), lot) != NOUGHT]
            self.assertEqual(sorted(giving), list(bases_of(book)))
            self.exact(lot_sum(book, pairs, (NOUGHT, NOUGHT)), (len(bases_of(book)), 1))

    def test_books_side_by_side(self):
        for one, other in itertools.product(RULE_BOOKS[::9], repeat=2):
            if one[0] == other[0]:
                pairs = pairs_of(rules_of(one[1] + other[1], 1, "beside")[0])
                for tie in TIES[::11]:
                    sums = [lot_sum(one, pairs[:one[1]], tie), lot_sum(other, pairs[one[1]:], tie)]
                    self.exact(lot_sum(beside(one, other), pairs, tie), times(*sums))


if __name__ == "__main__":
    unittest.main()
