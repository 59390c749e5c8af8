"""lets_book: its whole list, in its order [5] [12] [16]."""

import unittest

from cutorclose.bookchecker import lets_book
from cutorclose.errors import InvalidPaper
from cutorclose.kinds import is_book
from tests.support import BOTH, GREAT, ODD_VALUES, RING, SMALL_BOOKS, STAR, WIDE, Case

FAULTS = (
    # The shape, ahead of all else.
    ("shape", -1, []), ("shape", -1, ()), ("shape", -1, None), ("shape", -1, "abc"), ("shape", -1, True),
    ("shape", -1, (2, 3)), ("shape", -1, (2, 3, (), ())), ("shape", -1, [2, 3, ()]), ("shape", -1, (4, -1)),
    # The three elements, in order.
    ("prime", -1, (4, 3, ())), ("prime", -1, (True, 3, ())), ("prime", -1, (1, -1, [])), ("prime", -1, ("2", 3, ())),
    ("prime", -1, (None, None, None)), ("prime", -1, ((2,), 1, ())), ("prime", -1, (-2, 0, ())), ("prime", -1, (9, 0, ())),
    ("size", -1, (2, -1, ())), ("size", -1, (2, True, ())), ("size", -1, (2, None, [])), ("size", -1, (2, (1,), ())),
    ("size", -1, (2, "3", 5)), ("size", -1, (2, -GREAT, ())),
    ("rows", -1, (2, 3, [])), ("rows", -1, (2, 3, None)), ("rows", -1, (2, 3, [(1, 1, 1)])), ("rows", -1, (2, 0, "")),
    # Each row, with all its checks ahead of the next row.
    ("row", 0, (2, 3, ((1, 1),))), ("row", 0, (2, 3, ([1, 1, 1],))), ("row", 0, (2, 3, ((1, 1, 2),))),
    ("row", 0, (2, 3, ((1, 1, True),))), ("row", 0, (2, 3, ((1, 1, -1),))), ("row", 0, (2, 3, (None,))),
    ("row", 0, (2, 0, ((1,),))), ("row", 0, (2, GREAT, ((1, 0),))), ("row", 1, (2, 2, ((1, 0), (0, 1, 0)))),
    ("row", 0, (2, 1, (1,))), ("row", 0, (2, 1, ((),))), ("row", 1, (7, 1, ((1,), (7,)))),
    ("nought", 0, (2, 3, ((0, 0, 0),))), ("nought", 0, (2, 0, ((),))), ("nought", 0, (2, 0, ((), ()))),
    ("nought", 1, (2, 2, ((1, 1), (0, 0)))), ("nought", 0, (2, 2, ((0, 0), (3, 3)))),
    ("first", 0, (3, 2, ((2, 0),))), ("first", 0, (7, 3, ((0, 6, 1),))), ("first", 1, (2, 2, ((1, 0), (1, 1)))),
    ("first", 1, (2, 2, ((0, 1), (1, 0)))), ("first", 1, (3, 2, ((1, 0), (0, 2)))), ("first", 1, (2, 1, ((1,), (1,)))),
    ("first", 0, (3, 2, ((2, 0), (0, 0)))), ("first", 2, (2, 3, ((1, 0, 0), (0, 0, 1), (0, 1, 0)))),
    # Only when all rows have been gone through: whether they are settled.
    ("settled", (1, 0), (2, 3, ((1, 1, 0), (0, 1, 1)))), ("settled", (1, 0), (5, 2, ((1, 4), (0, 1)))),
    ("settled", (2, 0), (2, 3, ((1, 0, 1), (0, 1, 0), (0, 0, 1)))),
    ("settled", (2, 1), (2, 3, ((1, 0, 0), (0, 1, 1), (0, 0, 1)))),
    ("settled", (1, 0), (2, 3, ((1, 1, 1), (0, 1, 1), (0, 0, 1)))),
    ("settled", (2, 0), (2, 3, ((1, 0, 1), (0, 1, 1), (0, 0, 1)))),
    ("row", 2, (2, 3, ((1, 1, 0), (0, 1, 1), (0, 0, 2)))), ("first", 2, (2, 2, ((1, 1), (0, 1), (0, 1)))),
)


class BookChecker(Case):
    def test_rank_of_a_book(self):
        for book, rank in ((RING, 2), (STAR, 1), (BOTH, 3), (WIDE, 2), ((2, 0, ()), 0), ((7, GREAT, ()), 0), ((3, 1, ((1,),)), 1)):
            self.exact(lets_book(book), rank)
        for book in SMALL_BOOKS:
            self.exact(lets_book(book), len(book[2]))

    def test_each_entry_in_order(self):
        for word, at, thing in FAULTS:
            with self.subTest(thing=thing):
                self.refused(InvalidPaper, {"word": word, "at": at}, lets_book, thing)
                self.exact(is_book(thing), False)

    def test_any_value(self):
        for thing in ODD_VALUES:
            self.refused(InvalidPaper, {"word": "shape", "at": -1}, lets_book, thing)

    def test_forty_places(self):
        rows = tuple(tuple(int(k == at or at >= 20 and (k * at) % 3 == 1) for at in range(40)) for k in range(20))
        self.exact(lets_book((2, 40, rows)), 20)
        self.refused(InvalidPaper, {"word": "settled", "at": (1, 0)}, lets_book, (2, 40, ((1,) * 40, (0,) + (1,) * 39)))


if __name__ == "__main__":
    unittest.main()
