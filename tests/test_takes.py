"""Books cut and closed, what is left, and what follows [6] [19] [20]."""

import unittest

from cutorclose.books import checks_of, span_of
from cutorclose.errors import NotUsable
from cutorclose.lots import kind_at, rank_of, rank_on
from cutorclose.takes import closed_at, cut_at, kept_by, left_by
from tests import plain
from tests.support import GREAT_BOOKS, RING, SMALL_BOOKS, Case, lots_of, splits
from tests.test_lots import BAD_LOTS


def refusal(word):
    return {"word": word, "at": -1}


class Takes(Case):
    def test_kept_by(self):
        for size in range(5):
            for lot in lots_of(size):
                self.exact(kept_by(size, lot), plain.others(size, lot))
        self.exact(kept_by(40, tuple(range(1, 40))), (0,))

    def test_cut_and_closed_by_their_words(self):
        for book in SMALL_BOOKS:
            for lot in lots_of(book[1]):
                self.exact(cut_at(book, lot), plain.cut(book, lot))
                self.exact(closed_at(book, lot), plain.closed(book, lot))
        for book in GREAT_BOOKS:
            for lot in lots_of(book[1])[::9]:
                self.exact(cut_at(book, lot), plain.cut(book, lot))
                self.exact(closed_at(book, lot), plain.closed(book, lot))

    def test_left_by_both(self):
        for book in SMALL_BOOKS:
            for closed, cut in splits(book[1]):
                self.exact(left_by(book, closed, cut), plain.left(book, closed, cut))
            self.exact(left_by(book, (), ()), book)

    def test_forty_places(self):
        words = tuple(tuple((k * k + at * (k + 2)) % 7 for at in range(40)) for k in range(30))
        book = span_of(7, 40, words)
        lot = tuple(range(0, 40, 3))
        self.exact(checks_of(cut_at(book, lot)), closed_at(checks_of(book), lot))
        self.exact(left_by(book, lot, kept_by(40, lot)), (7, 0, ()))

    def test_refused(self):
        for bad in (-1, True, None, "3", (3,), [3]):
            self.refused(NotUsable, refusal("size"), kept_by, bad, None)
        for bad in BAD_LOTS:
            self.refused(NotUsable, refusal("lot"), kept_by, 3, bad)
            self.refused(NotUsable, refusal("lot"), cut_at, RING, bad)
            self.refused(NotUsable, refusal("lot"), closed_at, RING, bad)
            self.refused(NotUsable, refusal("closed"), left_by, RING, bad, bad)
            self.refused(NotUsable, refusal("closed"), left_by, RING, bad, (0,))
            self.refused(NotUsable, refusal("cut"), left_by, RING, (0,), bad)
        self.refused(NotUsable, refusal("cut"), left_by, RING, (0, 2), (1, 2))
        self.refused(NotUsable, refusal("cut"), left_by, RING, (1,), (1,))


class WhatFollows(Case):
    def test_ranks_of_what_is_left(self):
        for book in SMALL_BOOKS:
            for closed, cut in splits(book[1]):
                left = left_by(book, closed, cut)
                kept = kept_by(book[1], tuple(sorted(closed + cut)))
                for lot in lots_of(left[1]):
                    whole = tuple(sorted([kept[k] for k in lot] + list(closed)))
                    self.exact(rank_on(left, lot), rank_on(book, whole) - rank_on(book, closed))

    def test_checks_exchange_cut_and_closed(self):
        for book in SMALL_BOOKS:
            checks = checks_of(book)
            for closed, cut in splits(book[1]):
                self.exact(checks_of(left_by(book, closed, cut)), left_by(checks, cut, closed))

    def test_steps_and_their_order_do_not_matter(self):
        for book in SMALL_BOOKS:
            for closed, cut in splits(book[1]):
                kept = kept_by(book[1], cut)
                other_way = closed_at(cut_at(book, cut), tuple(kept.index(place) for place in closed))
                self.exact(left_by(book, closed, cut), other_way)
                if cut:
                    first = left_by(book, closed, cut[:1])
                    kept = kept_by(book[1], tuple(sorted(closed + cut[:1])))
                    self.exact(cut_at(first, tuple(kept.index(place) for place in cut[1:])), other_way)

    def test_one_book_just_at_idle_and_lone_places(self):
        for book in (*SMALL_BOOKS, *GREAT_BOOKS):
            checks = checks_of(book)
            self.assertEqual(rank_of(book) + rank_of(checks), book[1])
            for place in range(book[1]):
                kind = kind_at(book, place)
                self.exact(cut_at(book, (place,)) == closed_at(book, (place,)), kind != "ordinary")
                self.exact(kind_at(checks, place), {"idle": "alone", "alone": "idle", "ordinary": "ordinary"}[kind])


if __name__ == "__main__":
    unittest.main()
