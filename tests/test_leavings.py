"""Places alike and in a row, and what can be left [7] [8] [23] [27] to [30]."""

import itertools
import unittest

from cutorclose.books import checks_of
from cutorclose.errors import NotUsable
from cutorclose.leavings import pair_left, pairs_of, ring_left, rings_of, star_left, stars_of
from cutorclose.partings import part_at
from cutorclose.twins import alike_sets, are_alike, are_in_row, row_sets
from tests import plain
from tests.support import BAD_PLACES, BOTH, GREAT_BOOKS, LONE, RING, STAR, Case
from tests.test_lots import BAD_LOTS
from tests.test_partings import MORE_BOOKS

# Books of eight places: one part, many parts, no words, all words.
EIGHT = [
    (2, 8, ((1, 0, 0, 0, 0, 1, 1, 1), (0, 1, 0, 0, 1, 0, 1, 1), (0, 0, 1, 0, 1, 1, 0, 1), (0, 0, 0, 1, 1, 1, 1, 0))),
    (3, 8, ((1, 2, 0, 0, 0, 1, 0, 0), (0, 0, 1, 0, 0, 0, 1, 0), (0, 0, 0, 0, 1, 0, 0, 2))),
    (7, 8, ()),
    (5, 8, tuple(tuple(int(k == at) for at in range(8)) for k in range(8))),
]


def threes(book):
    return itertools.combinations(range(book[1]), 3)


class Twins(Case):
    def test_by_their_definition(self):
        for book in (*MORE_BOOKS, *GREAT_BOOKS):
            checks = plain.checks(book) if book[0] ** book[1] <= 300 else checks_of(book)
            for one, other in itertools.permutations(range(book[1]), 2):
                self.exact(are_alike(book, one, other), plain.alike(book, one, other))
                self.exact(are_in_row(book, one, other), plain.alike(checks, one, other))

    def test_greatest_lots(self):
        for book in (*MORE_BOOKS, *GREAT_BOOKS, *EIGHT):
            self.exact(alike_sets(book), plain.greatest_lots(book[1], lambda e, f: are_alike(book, e, f)))
            self.exact(row_sets(book), plain.greatest_lots(book[1], lambda e, f: are_in_row(book, e, f)))

    def test_edges(self):
        self.exact(are_alike((2, 2, ()), 0, 1), False)
        self.exact(are_alike((2, 2, ((1, 0),)), 0, 1), False)
        self.exact(are_in_row((2, 2, ((1, 0), (0, 1))), 0, 1), False)
        self.exact(are_alike((7, 2, ((1, 5),)), 1, 0), True)
        self.exact(are_in_row((7, 2, ((1, 5),)), 1, 0), True)
        self.exact(alike_sets((2, 0, ())), ())
        self.exact(row_sets((2, 0, ())), ())
        self.exact(alike_sets(LONE), ((1, 2),))
        self.exact(alike_sets((2, 5, ((1, 0, 1, 0, 1), (0, 1, 0, 1, 1)))), ((0, 2), (1, 3)))

    def test_refused(self):
        for call in (are_alike, are_in_row, pair_left):
            for bad in BAD_PLACES:
                self.refused(NotUsable, {"word": "one", "at": -1}, call, RING, bad, bad)
                self.refused(NotUsable, {"word": "one", "at": -1}, call, RING, bad, 0)
                self.refused(NotUsable, {"word": "other", "at": -1}, call, RING, 0, bad)
            for place in range(3):
                self.refused(NotUsable, {"word": "other", "at": -1}, call, RING, place, place)


class Leavings(Case):
    def is_one_of(self, told, lots):
        """What is told is one of the lots, or None if there is none."""
        if not lots:
            self.assertIsNone(told)
        else:
            self.assertIsInstance(told, tuple)
            self.assertIn(told, lots)

    def test_by_their_definition(self):
        for book in (*MORE_BOOKS, *[book for book in GREAT_BOOKS if book[1] <= 5]):
            for one, other in itertools.combinations(range(book[1]), 2):
                lots = plain.closings(book, (one, other), plain.is_pair)
                self.is_one_of(pair_left(book, one, other), lots)
                self.is_one_of(pair_left(book, other, one), lots)
                self.exact((one, other) in pairs_of(book), bool(lots))
            for lot in threes(book):
                rings, stars = plain.closings(book, lot, plain.is_ring), plain.closings(book, lot, plain.is_star)
                self.is_one_of(ring_left(book, lot), rings)
                self.is_one_of(star_left(book, lot), stars)
                self.exact(lot in rings_of(book), bool(rings))
                self.exact(lot in stars_of(book), bool(stars))

    def test_sets(self):
        for book in (*MORE_BOOKS, *GREAT_BOOKS, *EIGHT):
            twos = itertools.combinations(range(book[1]), 2)
            self.exact(pairs_of(book), tuple(lot for lot in twos if pair_left(book, *lot) is not None))
            self.exact(rings_of(book), tuple(lot for lot in threes(book) if ring_left(book, lot) is not None))
            self.exact(stars_of(book), tuple(lot for lot in threes(book) if star_left(book, lot) is not None))

    def test_edges(self):
        for book in ((2, 0, ()), (3, 1, ()), (3, 1, ((1,),)), (5, 4, ()), EIGHT[3]):
            self.exact((pairs_of(book), rings_of(book), stars_of(book)), ((), (), ()))
        self.exact((pairs_of((5, 2, ((1, 4),))), rings_of((5, 2, ((1, 4),)))), (((0, 1),), ()))

    def test_eight_places_of_one_part(self):
        book = EIGHT[0]
        self.exact(len(pairs_of(book)), 28)
        self.exact((len(rings_of(book)), len(stars_of(book))), (56, 56))

    def test_refused(self):
        for call in (ring_left, star_left):
            for bad in (*BAD_LOTS, (), (0,), (0, 1), (0, 1, 3), (0, 2, 1), [0, 1, 2], (0, True, 2)):
                self.refused(NotUsable, {"word": "lot", "at": -1}, call, RING, bad)
            self.refused(NotUsable, {"word": "lot", "at": -1}, call, BOTH, (0, 1, 2, 3))
            self.refused(NotUsable, {"word": "lot", "at": -1}, call, (2, 0, ()), ())


class WhatFollows(Case):
    def test_pairs_are_of_one_part(self):
        for book in (*MORE_BOOKS, *GREAT_BOOKS, *EIGHT):
            twos = itertools.combinations(range(book[1]), 2)
            self.exact(pairs_of(book), tuple(lot for lot in twos if part_at(book, lot[0]) == part_at(book, lot[1])))

    def test_threes_are_of_one_part(self):
        for book in (*MORE_BOOKS, *GREAT_BOOKS, *EIGHT):
            either = {*rings_of(book), *stars_of(book)}
            self.assertEqual(either, {lot for lot in threes(book) if set(lot) <= set(part_at(book, lot[0]))})

    def test_alike_in_no_ring_and_in_a_row_in_no_star(self):
        for book in (*MORE_BOOKS, *GREAT_BOOKS, *EIGHT):
            for lots, lot in itertools.product((alike_sets(book),), rings_of(book)):
                self.assertFalse(any(len(set(lot) & set(more)) > 1 for more in lots))
            for lots, lot in itertools.product((row_sets(book),), stars_of(book)):
                self.assertFalse(any(len(set(lot) & set(more)) > 1 for more in lots))

    def test_checks_exchange_rings_and_stars(self):
        for book in (*MORE_BOOKS, *GREAT_BOOKS, *EIGHT):
            checks = checks_of(book)
            self.exact(rings_of(checks), stars_of(book))
            self.exact(stars_of(checks), rings_of(book))
            self.exact(pairs_of(checks), pairs_of(book))
        self.exact(rings_of(RING), stars_of(STAR))


if __name__ == "__main__":
    unittest.main()
