"""Tables of ranks, sums by them, and what follows [53] [55] [56]."""

import itertools
import unittest

from cutorclose.books import checks_of
from cutorclose.errors import NotUsable
from cutorclose.lots import rank_on
from cutorclose.lotsums import lot_sum
from cutorclose.quotients import multiplied, raised, summed
from cutorclose.ranktables import checks_table, rank_table, table_sum
from tests import plain
from tests.support import BOTH, GREAT_BOOKS, RING, RULE_BOOKS, STAR, WIDE, Case, lots_of
from tests.test_leavings import EIGHT
from tests.test_lotsums import NO_PAIRS, TIE, TIES

# What is no table.
BAD_TABLES = (
    None, True, 0, "", "12", (), [], [[1]], ((),), ((), ()), [(1,)], ([1],), (1,), (None,), ("1",), ((1,), None), ((1,), 1),
    ((1,), [1]), ((1,), ()),
    # No numbers.
    ((True,),), ((-1,),), ((None,),), (("1",),), (((1,),),), (([1],),), ((1,), (True,)), ((1,), (-1,)), ((1, False), (1, 1)),
    (((1, 1),),),
    # Not all of one length, or longer than there are tuples.
    ((1,), (1, 0)), ((1, 0), (1,)), ((1, 0), (0, 1), (0,)), ((1, 0),), ((0, 0),), ((1, 0, 0), (0, 1, 0)), ((0, 0, 0), (0, 0, 0)),
    # Not 0 where r is above k.
    ((1, 1), (0, 1)), ((0, 2), (0, 1)), ((1, 0, 0), (0, 3, 1), (0, 0, 3)), ((1, 0, 1), (0, 2, 0), (0, 0, 1)),
    # Not 0 where k - r is above n - R.
    ((1, 0), (1, 1)), ((1, 0), (0, 1), (1, 0)), ((1, 0), (1, 1), (1, 1)), ((1, 0, 0), (0, 2, 0), (0, 1, 1)),
    ((1, 0, 0), (1, 2, 0), (0, 0, 1)),
    ((1, 0, 0), (0, 3, 0), (1, 0, 3), (0, 0, 1)), ((1, 0, 0), (0, 3, 0), (0, 0, 3), (0, 2, 1)),
)


def refusal(word):
    return {"word": word, "at": -1}


def spots(table):
    return [(k, r) for k in range(len(table)) for r in range(len(table[0]))]


def tables_of(size, rank, numbers):
    """All tables of this size and rank with these numbers where they may stand."""
    free = [(k, r) for k in range(size + 1) for r in range(rank + 1) if r <= k and k - r <= size - rank]
    for chosen in itertools.product(numbers, repeat=len(free)):
        told = dict(zip(free, chosen))
        yield tuple(tuple(told.get((k, r), 0) for r in range(rank + 1)) for k in range(size + 1))


class Tables(Case):
    def test_by_their_definition(self):
        for book in (*RULE_BOOKS, *GREAT_BOOKS, *EIGHT[:3]):
            ranks = [(len(lot), plain.rank(book, lot)) for lot in lots_of(book[1])]
            table = tuple(tuple(ranks.count((k, r)) for r in range(len(book[2]) + 1)) for k in range(book[1] + 1))
            self.exact(rank_table(book), table)

    def test_edges(self):
        for prime in (2, 3, 5, 7):
            self.exact(rank_table((prime, 0, ())), ((1,),))
            self.exact(rank_table((prime, 2, ())), ((1,), (2,), (1,)))
            self.exact(rank_table((prime, 2, ((1, 0), (0, 1)))), ((1, 0, 0), (0, 2, 0), (0, 0, 1)))
        book = EIGHT[3]
        self.exact(rank_table(book)[4], (0, 0, 0, 0, 70, 0, 0, 0, 0))

    def test_sums(self):
        for book in (*RULE_BOOKS[::2], WIDE, BOTH, *EIGHT[:2]):
            for pair, tie in zip(TIES[::3], TIES[1::2]):
                self.exact(table_sum(book, pair, tie), lot_sum(book, (pair,) * book[1], tie))

    def test_sums_of_no_places(self):
        for pair, tie in itertools.product(TIES[::5], repeat=2):
            self.exact(table_sum((3, 0, ()), pair, tie), (1, 1))

    def test_checks(self):
        for book in (*RULE_BOOKS, *GREAT_BOOKS, *EIGHT):
            self.exact(checks_table(rank_table(book)), rank_table(checks_of(book)))

    def test_tables_of_no_book(self):
        self.exact(checks_table(((0,),)), ((0,),))
        self.exact(checks_table(((5,), (7,))), ((7, 0), (0, 5)))
        self.exact(checks_table(((1, 0), (0, 9))), ((9,), (1,)))
        self.exact(checks_table(((1, 0), (2, 3), (0, 4))), ((4, 0), (2, 3), (0, 1)))
        for size in range(4):
            for rank in range(size + 1):
                for table in itertools.islice(tables_of(size, rank, (3, 0, 10 ** 40)), 200):
                    self.check_table(table, size, rank)

    def check_table(self, table, size, rank):
        told = checks_table(table)
        self.exact(tuple(map(len, told)), (size - rank + 1,) * (size + 1))
        moved = {(size - k, size - k - rank + r): table[k][r] for k, r in spots(table) if table[k][r] != 0}
        self.assertEqual({spot: told[spot[0]][spot[1]] for spot in spots(told) if told[spot[0]][spot[1]] != 0}, moved)
        self.exact(checks_table(told), table)

    def test_refused(self):
        for bad in BAD_TABLES:
            with self.subTest(bad=bad):
                self.refused(NotUsable, refusal("table"), checks_table, bad)
        for bad in NO_PAIRS:
            self.refused(NotUsable, refusal("pair"), table_sum, RING, bad, TIE)
            self.refused(NotUsable, refusal("pair"), table_sum, RING, bad, None)
            self.refused(NotUsable, refusal("tie"), table_sum, RING, TIE, bad)


class WhatFollows(Case):
    def test_the_sum_over_the_table(self):
        for book in (*RULE_BOOKS[::2], RING, STAR, *EIGHT):
            table, size, whole = rank_table(book), book[1], len(book[2])
            for (closed, cut), (u, v) in zip(TIES[::7], TIES[2::5]):
                terms = [multiplied([(table[k][r], 1), raised(closed, k), raised(cut, size - k), raised(u, whole - r),
                                     raised(v, k - r)]) for k, r in spots(table) if r <= k]
                self.exact(table_sum(book, (closed, cut), (u, v)), summed(terms))

    def test_twice_taken_to_the_checks(self):
        for book in (*RULE_BOOKS, *GREAT_BOOKS, *EIGHT):
            self.exact(checks_table(checks_table(rank_table(book))), rank_table(book))

    def test_lots_of_the_checks(self):
        for book in RULE_BOOKS[::3]:
            checks = checks_of(book)
            for lot in lots_of(book[1]):
                others = plain.others(book[1], lot)
                self.assertEqual(rank_on(checks, others), len(others) - len(book[2]) + rank_on(book, lot))


if __name__ == "__main__":
    unittest.main()
