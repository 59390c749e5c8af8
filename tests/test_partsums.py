"""Worths part by part, and what follows [11] [53] [58] [59]."""

import unittest
from fractions import Fraction

from cutorclose.choices import all_worths
from cutorclose.errors import NotUsable, Untied
from cutorclose.fitting import fits, worth_of
from cutorclose.lotsums import lot_sum
from cutorclose.partsums import worth_by_parts
from cutorclose.takes import cut_at, kept_by
from cutorclose.tyings import tie_of
from tests import plain
from tests.papers import has_parts_paper
from tests.support import (BAD_RULES, BOTH, FOUR, GREAT_BOOKS, LONE, ODD, RING, RULE_BOOKS, STAR, WIDE, Case, quotient, rules_of)
from tests.test_fitting import FLAT
from tests.test_leavings import EIGHT
from tests.test_lotsums import TIES
from tests.test_tyings import NEITHER, NO_CLOSED, NO_CUT

PAIR = (2, 2, ((1, 1),))


def refusal(word):
    return {"word": word, "at": -1}


def wanted_worth(book, rule):
    """The product over the parts, by the words of the definition; or the first part that is none of these, as a lot."""
    worth = Fraction(1)
    for part in plain.parts(book):
        others = plain.others(book[1], part)
        left, rest = plain.cut(book, others), plain.without(rule, others)
        tie = plain.tie(rule, part)
        if len(part) == 1:
            worth *= Fraction(*rest[0][2 if plain.kind(book, part[0]) == "alone" else 3])
        elif tie is not None:
            worth *= plain.tie_sum(left, rest, *(each or Fraction(0) for each in tie))
        elif len(part) == 2 and plain.pair_gap(rule, *part) == 0:
            worth *= plain.worth_by(left, rest, (0, 1))
        else:
            return part
    return worth


class Parts(Case):
    def check(self, book, rule):
        wanted = wanted_worth(book, rule)
        if isinstance(wanted, tuple):
            self.refused(Untied, {"lot": wanted}, worth_by_parts, book, rule)
        else:
            self.exact(worth_by_parts(book, rule), quotient(wanted))
        return not isinstance(wanted, tuple)

    def test_by_their_definition(self):
        met = {True: 0, False: 0}
        for book in RULE_BOOKS:
            for rule in rules_of(book[1], 2, "parts"):
                met[self.check(book, rule)] += 1
        self.assertGreater(min(met.values()), 300)

    def test_greater_books(self):
        met = set()
        for book in (*GREAT_BOOKS, *EIGHT[:3]):
            for rule in rules_of(book[1], 1, "parts"):
                met.add(self.check(book, rule))
        self.assertEqual(met, {True, False})

    def test_parts_of_one_place(self):
        rule = tuple(tuple((10 * k + j, 1) for j in range(1, 5)) for k in range(4))
        self.exact(worth_by_parts((2, 4, ()), rule), (4 * 14 * 24 * 34, 1))
        self.exact(worth_by_parts((2, 4, tuple(tuple(int(k == j) for j in range(4)) for k in range(4))), rule), (3 * 13 * 23 * 33, 1))
        self.exact(worth_by_parts((2, 2, ((0, 1),)), rule[:2]), (4 * 13, 1))
        self.exact(worth_by_parts((2, 0, ()), ()), (1, 1))

    def test_parts_of_two_places(self):
        # With a tie; without one, by either order; untied.
        self.exact(worth_by_parts(PAIR, (FOUR, FOUR)), (5, 1))
        self.exact(worth_by_parts(PAIR, (FLAT, FLAT)), (3, 1))
        self.refused(Untied, {"lot": (0, 1)}, worth_by_parts, PAIR, (FOUR, ODD[2]))
        self.exact(worth_by_parts(LONE, (FOUR, FLAT, FLAT, FOUR)), (3 * 3 * 2, 1))
        self.refused(Untied, {"lot": (1, 2)}, worth_by_parts, LONE, (FOUR, FOUR, ODD[2], FOUR))

    def test_the_first_part_that_is_untied(self):
        self.refused(Untied, {"lot": (0, 1, 2)}, worth_by_parts, BOTH, ODD + ODD)
        self.refused(Untied, {"lot": (3, 4, 5)}, worth_by_parts, BOTH, (FOUR,) * 3 + ODD)
        # Whether the rule fits or not.
        self.refused(Untied, {"lot": (0, 1, 2)}, worth_by_parts, RING, (FLAT,) * 3)
        self.exact(fits(RING, (FLAT,) * 3), True)
        self.refused(Untied, {"lot": (0, 1, 2, 3)}, worth_by_parts, WIDE, (FLAT,) * 4)

    def test_any_in_a_tie(self):
        for four, worth in ((NO_CUT, (8, 1)), (NEITHER, (0, 1))):
            self.exact(tie_of((four,) * 3, (0, 1, 2))[0], "any")
            self.check(RING, (four,) * 3)
            self.check(STAR, (four,) * 3)
        self.exact(worth_by_parts(RING, (NO_CUT,) * 3), (2 * 2 * 2 * 5, 1))
        self.exact(worth_by_parts(RING, (NO_CLOSED,) * 3), (2 * 2 * 2 * 3 * 3, 1))
        self.exact(worth_by_parts(RING, (NEITHER,) * 3), (0, 1))

    def test_refused(self):
        for bad in BAD_RULES:
            self.refused(NotUsable, refusal("rule"), worth_by_parts, RING, bad)
        self.refused(NotUsable, refusal("rule"), worth_by_parts, (2, 0, ()), None)


class WhatFollows(Case):
    def test_if_it_returns_the_rule_fits(self):
        for book in RULE_BOOKS:
            for rule in rules_of(book[1], 1, "fits"):
                if has_parts_paper(book, rule):
                    self.exact(fits(book, rule), True)
                    self.exact(all_worths(book, rule), (worth_by_parts(book, rule),))
                    self.exact(worth_of(book, rule), worth_by_parts(book, rule))
                else:
                    with self.assertRaises(Untied):
                        worth_by_parts(book, rule)

    def test_without_noughts_just_if_it_fits(self):
        met = {True: 0, False: 0}
        for book in (*RULE_BOOKS, *GREAT_BOOKS):
            for rule in rules_of(book[1], 2, "noughts"):
                if plain.noughtless(book, rule):
                    fit = fits(book, rule)
                    met[fit] += 1
                    if fit:
                        self.exact(worth_by_parts(book, rule), worth_of(book, rule))
                    else:
                        with self.assertRaises(Untied):
                            worth_by_parts(book, rule)
        self.assertGreater(min(met.values()), 50)

    def test_each_quotient_gives_the_same_sum(self):
        for book in (*RULE_BOOKS, WIDE, BOTH):
            for part in plain.parts(book):
                left = cut_at(book, kept_by(book[1], part))
                if len(part) > 1:
                    for four, free in ((NO_CLOSED, 1), (NO_CUT, 0)):
                        sums = set()
                        for tie in TIES:
                            tie = (tie[0], (5, 1)) if free == 0 else ((3, 1), tie[1])
                            sums.add(lot_sum(left, (four[:2],) * len(part), tie))
                        self.assertEqual(len(sums), 1)


if __name__ == "__main__":
    unittest.main()
