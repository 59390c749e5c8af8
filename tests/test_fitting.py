"""Whether a rule fits, clashes, the one worth, and what follows [9] [10] [11] [47] [48] [50]."""

import unittest
from fractions import Fraction

from cutorclose.books import beside, checks_of
from cutorclose.choices import all_worths
from cutorclose.equations import failing
from cutorclose.errors import NotUsable, Unlike
from cutorclose.fitpapers import fit_paper
from cutorclose.fitting import clash_of, fits, worth_of
from cutorclose.reckoning import order_worths, worth_by
from cutorclose.rulekinds import rule_left, rule_of_checks
from cutorclose.takes import left_by
from tests import plain
from tests.papers import PaperCase
from tests.support import (BAD_RULES, BOTH, FOUR, GREAT_BOOKS, LONE, ODD, RING, RULE_BOOKS, STAR, WIDE, four_by, quotient, quotients,
                           rules_of, splits)
from tests.test_fitpapers import LOOSE
from tests.test_leavings import EIGHT

# Ties hold nowhere, but the numbers are alike at all places.
FLAT = quotients(map(Fraction, (1, 0, 2, 3)))
NOUGHTS = ((0, 1),) * 4


def refusal(word):
    return {"word": word, "at": -1}


class Fitting(PaperCase):
    def check(self, book, rule, one_worth):
        """Check all three functions, one_worth being the worth of a rule that fits, or None."""
        self.exact(fits(book, rule), one_worth is not None)
        if one_worth is not None:
            self.exact(clash_of(book, rule), None)
            self.exact(worth_of(book, rule), quotient(one_worth))
            return
        self.check_clash(book, rule, clash_of(book, rule))
        with self.assertRaises(Unlike) as caught:
            worth_of(book, rule)
        self.assertIs(type(caught.exception), Unlike)
        self.check_clash(book, rule, caught.exception.clash)

    def test_by_all_trees_of_all_that_can_be_left(self):
        met = {True: 0, False: 0}
        for book in RULE_BOOKS:
            for rule in rules_of(book[1], 3, "fits"):
                fit = plain.fits(book, rule)
                worth, *more = plain.tree_worths(book, rule)
                self.check(book, rule, worth if fit else None)
                self.assertTrue(more == [] or not fit)
                met[fit] += 1
        self.assertGreater(min(met.values()), 500)

    def test_by_all_orders_of_all_that_can_be_left(self):
        for book in RULE_BOOKS[::2]:
            for rule in rules_of(book[1], 1, "orders"):
                told = [order_worths(left, its) for _, _, left, its in plain.all_left(book, rule)]
                self.exact(fits(book, rule), all(len(worths) == 1 for worths in told))

    def test_one_worth_does_not_yet_make_it_fit(self):
        # Its worth is 0 by all trees, but that of what is left without the lone place hangs on them.
        book, rule = beside((2, 1, ((1,),)), RING), (NOUGHTS, *ODD)
        self.exact(all_worths(book, rule), ((0, 1),))
        self.check(book, rule, None)

    def test_by_rings_and_stars_only(self):
        for book in (RING, STAR, WIDE, BOTH):
            rule = (LOOSE * 2)[:book[1]]
            self.assertNotIn("pair", [each[0] for each in failing(book, rule)])
            self.check(book, rule, None)
        # The brackets are the same, but the alone, or idle, numbers are nought.
        for at, book in ((2, RING), (3, STAR)):
            rule = tuple((*four[:at], (0, 1), *four[at + 1:]) for four in (LOOSE[0],) * 3)
            self.check(book, rule, plain.worth_by(book, rule, (0, 1, 2)))

    def test_pair_gaps_alone_would_not_tell(self):
        met = {True: 0, False: 0}
        for book in RULE_BOOKS:
            for rule in rules_of(book[1], 8, "brackets"):
                equations = [each for each in failing(book, rule) if each[0] == "pair"]
                lots = [part for part in plain.parts(book) if len(part) > 2]
                if equations == [] and any(plain.bracket(rule, e, f) for lot in lots for e in lot for f in lot if e != f):
                    fit = plain.fits(book, rule)
                    self.exact(fits(book, rule), fit)
                    met[fit] += 1
        self.assertGreater(min(met.values()), 10)

    def test_fits_without_a_tie(self):
        for book in (RING, STAR, WIDE, BOTH, *GREAT_BOOKS):
            rule = (FLAT,) * book[1]
            self.assertIsNone(plain.tie(rule, max(plain.parts(book), key=len)))
            self.check(book, rule, plain.worth_by(book, rule, tuple(range(book[1]))))

    def test_noughts(self):
        for book in (RING, STAR, WIDE, BOTH, LONE, *GREAT_BOOKS):
            self.check(book, (NOUGHTS,) * book[1], Fraction(0))

    def test_edges(self):
        for prime in (2, 3, 5, 7):
            self.check((prime, 0, ()), (), Fraction(1))
        for book in ((2, 3, ()), (3, 3, ((1, 0, 0), (0, 1, 0), (0, 0, 1))), (2, 1, ((1,),)), (5, 1, ())):
            for rule in rules_of(book[1], 3, "edges"):
                self.check(book, rule, plain.worth_by(book, rule, tuple(range(book[1]))))
        self.exact(worth_of(BOTH, (FOUR,) * 6), (126, 1))

    def test_greater_books(self):
        for book in (*GREAT_BOOKS, *EIGHT[:3]):
            for rule in rules_of(book[1], 1, "greater"):
                if fits(book, rule):
                    order = tuple(range(book[1]))
                    for each in (order, order[::-1], (*order[3:], *order[:3])):
                        self.exact(worth_of(book, rule), worth_by(book, rule, each))
                else:
                    self.check(book, rule, None)

    def test_refused(self):
        for call in (fits, clash_of, worth_of):
            for bad in BAD_RULES:
                self.refused(NotUsable, refusal("rule"), call, RING, bad)
            self.refused(NotUsable, refusal("rule"), call, (2, 0, ()), (FOUR,))


class Guarantees(PaperCase):
    def test_just_where_no_equation_fails(self):
        for book in RULE_BOOKS[::2]:
            for rule in rules_of(book[1], 1, "G1"):
                self.exact(plain.fits(book, rule), failing(book, rule) == ())

    def test_left_as_pairs_rings_and_stars_just_within_parts(self):
        for book in (*RULE_BOOKS, BOTH):
            parts = plain.parts(book)
            for many, judges in ((2, [plain.is_pair]), (3, [plain.is_ring, plain.is_star])):
                for lot in plain.lots_of(book[1]):
                    if len(lot) == many:
                        left = any(plain.closings(book, lot, judge) for judge in judges)
                        self.assertEqual(left, any(set(lot) <= set(part) for part in parts))

    def test_without_noughts_just_by_the_only_ties(self):
        met = {True: 0, False: 0}
        for book in (*RULE_BOOKS, WIDE):
            for rule in rules_of(book[1], 4, "G3"):
                if plain.noughtless(book, rule):
                    ties = [plain.tie(rule, part) for part in plain.parts(book) if len(part) > 2]
                    gaps = [plain.pair_gap(rule, *part) for part in plain.parts(book) if len(part) == 2]
                    wanted = None not in ties and not any(gaps)
                    self.exact(fits(book, rule), wanted)
                    self.assertNotIn(None, [each for tie in ties if tie is not None for each in tie])
                    met[wanted] += any(len(part) > 2 for part in plain.parts(book))
        self.assertGreater(min(met.values()), 20)

    def test_tied_rules_fit(self):
        u, v = Fraction(-2, 3), Fraction(5)
        for book in (*RULE_BOOKS, *GREAT_BOOKS):
            rule = tuple(four_by(Fraction(k - 1), Fraction(2 - k, 3), u, v) for k in range(book[1]))
            self.exact(fits(book, rule), True)
            self.exact(worth_of(book, rule), quotient(plain.tie_sum(book, rule, u, v)))


class WhatFollows(PaperCase):
    def test_all_that_can_be_left_and_the_checks(self):
        for book in RULE_BOOKS[::2]:
            for rule in rules_of(book[1], 1, "left"):
                fit = fits(book, rule)
                self.exact(fits(checks_of(book), rule_of_checks(rule)), fit)
                told = [fits(left_by(book, closed, cut), rule_left(rule, tuple(sorted(closed + cut))))
                        for closed, cut in splits(book[1])]
                self.exact(all(told), fit)

    def test_books_side_by_side(self):
        met = set()
        for one in RULE_BOOKS[::8]:
            for other in RULE_BOOKS[::8]:
                if one[0] == other[0]:
                    for rule in rules_of(one[1] + other[1], 1, "beside"):
                        told = (fits(one, rule[:one[1]]), fits(other, rule[one[1]:]))
                        self.exact(fits(beside(one, other), rule), told[0] and told[1])
                        met.add(told)
        self.assertEqual(len(met), 4)

    def test_a_paper_of_parts_without_noughts(self):
        met = 0
        for book in (*RULE_BOOKS, *GREAT_BOOKS):
            for rule in rules_of(book[1], 2, "paper"):
                if plain.noughtless(book, rule) and fits(book, rule):
                    self.exact(fit_paper(book, rule)[0], "parts")
                    met += 1
        self.assertGreater(met, 200)

    def test_the_same_everywhere(self):
        for book in (*RULE_BOOKS, *GREAT_BOOKS, *EIGHT):
            for rule in rules_of(1, 1, "same"):
                self.exact(fits(book, rule * book[1]), True)


if __name__ == "__main__":
    unittest.main()
