"""Two places made one [7] [11] [63] [64] [66]."""

import itertools
import unittest
from fractions import Fraction

from cutorclose.errors import NotUsable
from cutorclose.fitting import fits, worth_of
from cutorclose.lots import kind_at
from cutorclose.merging import merged_alike, merged_in_row
from cutorclose.twins import are_alike, are_in_row
from cutorclose.tyings import holds_at
from tests import plain
from tests.support import (BAD_PLACES, BAD_RULES, BOTH, FOUR, GREAT_BOOKS, LONE, ODD, RING, RULE_BOOKS, STAR, WIDE, Case, quotients,
                           refusal, rules_of)
from tests.test_leavings import EIGHT
from tests.test_lotsums import TIES

SAME = (FOUR,) * 3
PAIR = (2, 2, ((1, 1),))
MERGERS = {"alike": (merged_alike, are_alike), "in row": (merged_in_row, are_in_row)}

# Numbers by which each product of two of them is told from all others.
PRIMES = [quotients(map(Fraction, (2, 3, 5, 7))), quotients(map(Fraction, (11, 13, 17, 19))), quotients(map(Fraction, (23, 29, 31, 37)))]


def spots(book):
    """Each merger of two places of the book, with its word, in both orders of them."""
    for word, (merger, judge) in MERGERS.items():
        for one, other in itertools.permutations(range(book[1]), 2):
            if judge(book, one, other):
                yield word, merger, one, other


class Merging(Case):
    def test_by_the_words_of_the_document(self):
        met = {"alike": 0, "in row": 0}
        for book in (*RULE_BOOKS, *GREAT_BOOKS):
            for word, merger, one, other in spots(book):
                met[word] += 1
                self.assertTrue((plain.alike if word == "alike" else plain.in_row)(book, one, other))
                for rule in rules_of(book[1], 1, "merging"):
                    self.exact(merger(book, rule, one, other), plain.merged(book, rule, word, one, other))
        self.assertGreater(min(met.values()), 300)

    def test_each_number(self):
        f = tuple(PRIMES)
        book, rule = merged_alike(STAR, f, 0, 1)
        self.exact(book, PAIR)
        self.exact(rule, (quotients(map(Fraction, (2 * 19 + 3 * 11, 3 * 13, 3 * 17 + 2 * 19, 7 * 19))), PRIMES[2]))
        self.exact(merged_alike(STAR, f, 2, 0)[1],
                   (quotients(map(Fraction, (23 * 7 + 29 * 2, 29 * 3, 29 * 5 + 23 * 7, 37 * 7))), PRIMES[1]))
        book, rule = merged_in_row(RING, f, 0, 1)
        self.exact(book, PAIR)
        self.exact(rule, (quotients(map(Fraction, (2 * 11, 3 * 17 + 2 * 13, 5 * 17, 2 * 19 + 3 * 17))), PRIMES[2]))
        self.exact(merged_in_row(RING, f, 2, 1)[1],
                   (PRIMES[0], quotients(map(Fraction, (23 * 11, 29 * 17 + 23 * 13, 31 * 17, 23 * 19 + 29 * 17)))))

    def test_the_lesser_place_stands_for_both(self):
        rule = (*SAME, *PRIMES)
        for one, other in ((3, 5), (5, 3)):
            book, its = merged_alike(BOTH, rule, one, other)
            self.exact(book, (2, 5, ((1, 0, 1, 0, 0), (0, 1, 1, 0, 0), (0, 0, 0, 1, 1))))
            self.exact((its[:3], its[4]), (SAME, PRIMES[1]))
        for one, other in ((0, 2), (2, 0)):
            book, its = merged_in_row(BOTH, tuple(PRIMES) + SAME, one, other)
            self.exact(book, (2, 5, ((1, 1, 0, 0, 0), (0, 0, 1, 1, 1))))
            self.exact(its[1:], (PRIMES[1], *SAME))

    def test_greater_primes(self):
        book = (7, 3, ((1, 5, 3),))
        self.exact(merged_alike(book, SAME, 0, 2)[0], (7, 2, ((1, 5),)))
        self.exact(merged_alike(book, SAME, 1, 2)[0], (7, 2, ((1, 5),)))
        book = (5, 3, ((1, 0, 2), (0, 1, 4)))
        self.exact(merged_in_row(book, SAME, 0, 1)[0], (5, 2, ((1, 2),)))
        self.exact(merged_in_row(book, SAME, 0, 2)[0], (5, 2, ((1, 2),)))

    def test_alike_and_in_a_row_at_once(self):
        f = PRIMES[:2]
        self.exact(merged_alike(PAIR, tuple(f), 0, 1)[0], (2, 1, ((1,),)))
        self.exact(merged_in_row(PAIR, tuple(f), 0, 1)[0], (2, 1, ()))
        alike, row = merged_alike(PAIR, tuple(f), 0, 1)[1][0], merged_in_row(PAIR, tuple(f), 0, 1)[1][0]
        # The alone number of the one is the idle number of the other.
        self.exact(alike[2], row[3])

    def test_eight_places(self):
        met = 0
        for book in EIGHT[:3]:
            for rule in rules_of(8, 1, "eight")[:2]:
                for word, merger, one, other in list(spots(book))[::3]:
                    self.exact(merger(book, rule, one, other), plain.merged(book, rule, word, one, other))
                    met += 1
        self.assertGreater(met, 0)

    def test_refused_in_order(self):
        for merger, book in ((merged_alike, STAR), (merged_in_row, RING)):
            for bad in BAD_RULES:
                self.refused(NotUsable, refusal("rule"), merger, book, bad, 0, 1)
                self.refused(NotUsable, refusal("rule"), merger, book, bad, None, None)
            for bad in BAD_PLACES:
                self.refused(NotUsable, refusal("one"), merger, book, ODD, bad, 1)
                self.refused(NotUsable, refusal("one"), merger, book, ODD, bad, bad)
                self.refused(NotUsable, refusal("other"), merger, book, ODD, 0, bad)
            for place in range(3):
                self.refused(NotUsable, refusal("other"), merger, book, ODD, place, place)

    def test_places_that_are_not_so(self):
        for book in (*RULE_BOOKS[::3], WIDE, LONE, BOTH):
            for merger, judge in MERGERS.values():
                for one, other in itertools.permutations(range(book[1]), 2):
                    if not judge(book, one, other):
                        self.refused(NotUsable, refusal("other"), merger, book, (FOUR,) * book[1], one, other)
        for merger in (merged_alike, merged_in_row):
            self.refused(NotUsable, refusal("other"), merger, (2, 2, ()), SAME[:2], 0, 1)
            self.refused(NotUsable, refusal("other"), merger, (2, 2, ((1, 0), (0, 1))), SAME[:2], 0, 1)
            self.refused(NotUsable, refusal("one"), merger, (2, 0, ()), (), 0, 1)
        self.refused(NotUsable, refusal("other"), merged_alike, RING, SAME, 0, 1)
        self.refused(NotUsable, refusal("other"), merged_in_row, STAR, SAME, 0, 1)


class Consequences(Case):
    def test_fitting_goes_on_with_the_same_worth(self):
        # (G5), too.
        met = 0
        for book in RULE_BOOKS:
            for rule in rules_of(book[1], 2, "goes on"):
                if not fits(book, rule):
                    continue
                worth = worth_of(book, rule)
                for _, merger, one, other in spots(book):
                    new = merger(book, rule, one, other)
                    self.exact(fits(*new), True)
                    self.exact(worth_of(*new), worth)
                    if len(rule) < 4:
                        self.assertTrue(plain.fits(*new))
                        self.assertEqual(plain.tree_worths(*new), {Fraction(*worth)})
                    met += 1
        self.assertGreater(met, 1000)

    def test_ties_go_on(self):
        met = 0
        for book in RULE_BOOKS[::2]:
            for rule in rules_of(book[1], 1, "ties go on"):
                for _, merger, one, other in spots(book):
                    for tie in TIES:
                        if holds_at(rule, tie, tuple(sorted((one, other)))):
                            its = merger(book, rule, one, other)[1]
                            self.exact(holds_at(its, tie, (min(one, other),)), True)
                            met += 1
        self.assertGreater(met, 300)

    def test_both_orders_can_differ_with_one_worth(self):
        # Both orders of the two places, of a rule that fits, give other numbers but one worth.
        differ = 0
        for rule in rules_of(2, 6, "differ"):
            if fits(PAIR, rule):
                one, other = merged_alike(PAIR, rule, 0, 1), merged_alike(PAIR, rule, 1, 0)
                differ += one != other
                self.exact(worth_of(*one), worth_of(*other))
        self.assertGreater(differ, 0)

    def test_the_place_that_stands_for_both(self):
        for book in RULE_BOOKS:
            for _, merger, one, other in spots(book):
                left = merger(book, (FOUR,) * book[1], one, other)[0]
                part = next(part for part in plain.parts(book) if one in part)
                kind = kind_at(left, min(one, other))
                self.assertEqual(kind == "ordinary", len(part) > 2)


if __name__ == "__main__":
    unittest.main()
