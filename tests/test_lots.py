"""Ranks, free lots, kinds of places, bases [5] [7] [18]."""

import itertools
import unittest

from cutorclose.errors import NotUsable
from cutorclose.lots import bases_of, is_free, kind_at, rank_of, rank_on
from tests import plain
from tests.support import BAD_PLACES, GREAT_BOOKS, RING, SMALL_BOOKS, STAR, WIDE, Case, lots_of

BAD_LOTS = (None, True, 0, "", [], [0], (3,), (-1,), (1, 0), (0, 0), (True,), (0, True), ("0",), ((0,),), (None,))


class Ranks(Case):
    def test_by_the_words_cut_to_the_lot(self):
        for book in SMALL_BOOKS:
            self.exact(rank_of(book), len(book[2]))
            for lot in lots_of(book[1]):
                rank = plain.rank(book, lot)
                self.exact(rank_on(book, lot), rank)
                self.exact(is_free(book, lot), rank == len(lot))
            self.exact(rank_on(book, ()), 0)
            self.exact(is_free(book, ()), True)
            self.exact(rank_on(book, tuple(range(book[1]))), rank_of(book))

    def test_greater_books(self):
        for book in GREAT_BOOKS:
            for lot in lots_of(book[1])[::5]:
                self.exact(rank_on(book, lot), plain.rank(book, lot))

    def test_forty_places(self):
        rows = tuple(tuple(int(at == k or at == 39) for at in range(40)) for k in range(39))
        book = (2, 40, rows)
        self.exact(rank_of(book), 39)
        self.exact(rank_on(book, tuple(range(40))), 39)
        self.exact(rank_on(book, tuple(range(1, 40))), 39)
        self.exact(is_free(book, tuple(range(40))), False)
        self.exact(kind_at(book, 39), "ordinary")
        self.exact(kind_at((2, 40, rows[:1]), 20), "idle")

    def test_refused(self):
        for call in (rank_on, is_free):
            for bad in BAD_LOTS:
                self.refused(NotUsable, {"word": "lot", "at": -1}, call, RING, bad)
        self.refused(NotUsable, {"word": "lot", "at": -1}, rank_on, (2, 0, ()), (0,))


class KindsOfPlaces(Case):
    def test_by_their_definition(self):
        for book in (*SMALL_BOOKS, *GREAT_BOOKS):
            for place in range(book[1]):
                self.exact(kind_at(book, place), plain.kind(book, place))

    def test_refused(self):
        for bad in BAD_PLACES:
            self.refused(NotUsable, {"word": "place", "at": -1}, kind_at, RING, bad)
        self.refused(NotUsable, {"word": "place", "at": -1}, kind_at, (2, 0, ()), 0)


class Bases(Case):
    def test_by_their_definition(self):
        for book in (*SMALL_BOOKS, *GREAT_BOOKS):
            lots = itertools.combinations(range(book[1]), len(book[2]))
            self.exact(bases_of(book), tuple(lot for lot in lots if plain.free(book, lot)))

    def test_edges(self):
        self.exact(bases_of((2, 0, ())), ((),))
        self.exact(bases_of((3, 2, ())), ((),))
        self.exact(bases_of((3, 2, ((1, 0), (0, 1)))), ((0, 1),))
        self.exact(bases_of(STAR), ((0,), (1,), (2,)))
        self.exact(len(bases_of(WIDE)), 6)


if __name__ == "__main__":
    unittest.main()
