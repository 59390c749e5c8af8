"""Knots, bonds and parts, and what follows [5] [7] [24] [25] [26]."""

import itertools
import unittest

from cutorclose.books import checks_of
from cutorclose.errors import NotUsable
from cutorclose.knots import bonds_of, knots_at, knots_of
from cutorclose.lots import kind_at
from cutorclose.partings import adds_up, part_at, parts_of
from cutorclose.takes import kept_by, left_by
from tests import plain
from tests.support import BAD_PLACES, BOTH, GREAT_BOOKS, RING, SMALL_BOOKS, Case, books_of, lots_of, splits
from tests.test_lots import BAD_LOTS

MORE_BOOKS = [*SMALL_BOOKS, *books_of(5, 3), *list(books_of(3, 4))[::4], *list(books_of(7, 3))[::4]]


class Knots(Case):
    def test_by_their_definition(self):
        for book in (*MORE_BOOKS, *GREAT_BOOKS):
            knots = plain.knots(book)
            self.exact(knots_of(book), knots)
            self.exact(bonds_of(book), knots_of(checks_of(book)))
            for place in range(book[1]):
                self.exact(knots_at(book, place), tuple(knot for knot in knots if place in knot))
        for book in SMALL_BOOKS:
            self.exact(bonds_of(book), plain.knots(plain.checks(book)))

    def test_edges(self):
        self.exact(knots_of((2, 0, ())), ())
        self.exact(bonds_of((2, 0, ())), ())
        self.exact(knots_of((3, 2, ())), ((0,), (1,)))
        self.exact(bonds_of((3, 2, ())), ())
        self.exact(knots_of((3, 2, ((1, 0), (0, 1)))), ())
        self.exact(bonds_of((3, 2, ((1, 0), (0, 1)))), ((0,), (1,)))

    def test_refused(self):
        for bad in BAD_PLACES:
            self.refused(NotUsable, {"word": "place", "at": -1}, knots_at, RING, bad)
            self.refused(NotUsable, {"word": "place", "at": -1}, part_at, RING, bad)
        self.refused(NotUsable, {"word": "place", "at": -1}, part_at, (2, 0, ()), 0)


class Parts(Case):
    def test_by_their_definition(self):
        for book in (*MORE_BOOKS, *GREAT_BOOKS):
            parts = plain.parts(book)
            self.exact(parts_of(book), parts)
            for part in parts:
                for place in part:
                    self.exact(part_at(book, place), part)

    def test_edges(self):
        self.exact(parts_of((2, 0, ())), ())
        self.exact(parts_of((5, 3, ())), ((0,), (1,), (2,)))
        self.exact(parts_of((5, 2, ((1, 0), (0, 1)))), ((0,), (1,)))
        self.exact(adds_up((2, 0, ()), ()), True)
        # Rows that share a place only with a third one.
        self.exact(parts_of((2, 5, ((1, 0, 0, 1, 0), (0, 1, 0, 0, 1), (0, 0, 1, 1, 1)))), ((0, 1, 2, 3, 4),))

    def test_adds_up(self):
        for book in MORE_BOOKS:
            for lot in lots_of(book[1]):
                ranks = plain.rank(book, lot) + plain.rank(book, plain.others(book[1], lot))
                self.exact(adds_up(book, lot), ranks == len(book[2]))

    def test_refused(self):
        for bad in BAD_LOTS:
            self.refused(NotUsable, {"word": "lot", "at": -1}, adds_up, RING, bad)


class WhatFollows(Case):
    def test_idle_and_lone_places(self):
        for book in (*MORE_BOOKS, *GREAT_BOOKS):
            for place in range(book[1]):
                kind = kind_at(book, place)
                self.exact((place,) in knots_of(book), kind == "idle")
                self.exact(knots_at(book, place) == (), kind == "alone")

    def test_a_knot_and_a_bond(self):
        for book in (*MORE_BOOKS, *GREAT_BOOKS):
            for knot, bond in itertools.product(knots_of(book), bonds_of(book)):
                self.assertNotEqual(len(set(knot) & set(bond)), 1)

    def test_parts_of_the_checks(self):
        for book in (*MORE_BOOKS, *GREAT_BOOKS):
            self.exact(parts_of(checks_of(book)), parts_of(book))

    def test_whole_parts_add_up(self):
        for book in (*MORE_BOOKS, BOTH):
            for lot in lots_of(book[1]):
                whole = all(set(part) <= set(lot) or not set(part) & set(lot) for part in parts_of(book))
                self.exact(adds_up(book, lot), whole)

    def test_what_is_left_joins_no_parts(self):
        for book in SMALL_BOOKS:
            for closed, cut in splits(book[1]):
                kept = kept_by(book[1], tuple(sorted(closed + cut)))
                for part in parts_of(left_by(book, closed, cut)):
                    self.assertEqual(len({part_at(book, kept[place]) for place in part}), 1)


if __name__ == "__main__":
    unittest.main()
