"""Papers of what can be left, and their checker, with its whole list [31]."""

import itertools
import unittest

from cutorclose.errors import InvalidPaper, NotUsable
from cutorclose.leavechecker import lets_left
from cutorclose.leavepapers import leave_paper
from cutorclose.partings import parts_of
from tests import plain
from tests.support import BOTH, GREAT_BOOKS, LONE, RING, STAR, WIDE, Case, lots_of
from tests.test_leavings import EIGHT
from tests.test_lots import BAD_LOTS
from tests.test_partings import MORE_BOOKS

JUDGES = {"pair": plain.is_pair, "ring": plain.is_ring, "star": plain.is_star}

FAULTS = (
    # No pair, or no such word, ahead of all else.
    ("shape", RING, (0, 1), None), ("shape", RING, (0, 1), True), ("shape", RING, (0, 1), ()), ("shape", RING, (0, 1), "pair"),
    ("shape", RING, (0, 1), ("pair",)), ("shape", RING, (0, 1), ["pair", (2,)]), ("shape", RING, (0, 1), ("pair", (2,), ())),
    ("shape", RING, (0, 1), ("pairs", (2,))), ("shape", RING, (0, 1), (None, (2,))), ("shape", RING, (0, 1), (("pair",), (2,))),
    ("shape", RING, (0, 1), (["pair"], (2,))), ("shape", RING, (0, 1), ("Pair", None)), ("shape", RING, (0, 1, 2), (0, ())),
    ("shape", RING, (0, 1, 2), ("ring", (), ())), ("shape", RING, (0, 1), (True, False)),
    # A word that does not fit the number of places, ahead of the second element.
    ("word", RING, (0, 1), ("ring", ())), ("word", RING, (0, 1), ("star", None)), ("word", RING, (0, 1, 2), ("pair", ())),
    ("word", RING, (0, 1, 2), ("pair", [9])),
    # The closed lot.
    ("closed", RING, (0, 1), ("pair", None)), ("closed", RING, (0, 1), ("pair", [2])), ("closed", RING, (0, 1), ("pair", (3,))),
    ("closed", RING, (0, 1), ("pair", (0,))), ("closed", RING, (0, 1), ("pair", (1, 2))), ("closed", RING, (0, 1), ("pair", 2)),
    ("closed", WIDE, (0, 1, 2), ("ring", (3, 3))), ("closed", WIDE, (0, 1, 2), ("star", (True,))),
    ("closed", BOTH, (0, 1, 2), ("ring", (4, 3))), ("closed", BOTH, (0, 1, 2), ("star", (2,))), ("closed", RING, (0, 1), ("pair", (-1,))),
    ("closed", RING, (0, 1), ("pair", "")), ("closed", BOTH, (1, 3), ("pair", (True, 4))),
    # By it the lot is not left so.
    ("left", RING, (0, 1), ("pair", ())), ("left", BOTH, (0, 1), ("pair", (3,))), ("left", BOTH, (3, 4), ("pair", (5,))),
    ("left", BOTH, (0, 3), ("pair", ())), ("left", WIDE, (0, 1, 2), ("ring", (3,))), ("left", WIDE, (0, 1, 2), ("star", ())),
    ("left", RING, (0, 1, 2), ("star", ())), ("left", STAR, (0, 1, 2), ("ring", ())), ("left", LONE, (0, 3), ("pair", ())),
    ("left", LONE, (1, 3), ("pair", ())), ("left", LONE, (1, 2, 3), ("star", ())), ("left", LONE, (0, 1, 2), ("ring", ())),
    ("left", BOTH, (0, 1, 3), ("ring", (2,))),
    # The lot away.
    ("away", BOTH, (0, 3), ("apart", None)), ("away", BOTH, (0, 3), ("apart", [0, 1, 2])), ("away", BOTH, (0, 3), ("apart", (6,))),
    ("away", BOTH, (0, 3), ("apart", (2, 1, 0))), ("away", BOTH, (0, 3), ("apart", (0, True, 2))), ("away", RING, (0, 1), ("apart", 0)),
    ("away", BOTH, (0, 3), ("apart", ((0, 1, 2),))),
    ("some", BOTH, (0, 3), ("apart", ())), ("some", BOTH, (0, 1), ("apart", (3, 4, 5))), ("some", BOTH, (0, 1), ("apart", (0, 1, 2))),
    ("some", BOTH, (0, 3), ("apart", (1, 2))), ("some", BOTH, (0, 1, 3), ("apart", (0, 1, 2, 3, 4, 5))),
    ("some", RING, (0, 1), ("apart", (0, 1))), ("some", RING, (0, 1), ("apart", (2,))),
    ("adds", BOTH, (0, 3), ("apart", (0, 1))), ("adds", RING, (0, 1), ("apart", (0,))), ("adds", BOTH, (0, 1, 3), ("apart", (0,))),
    ("adds", BOTH, (0, 3), ("apart", (0, 1, 2, 4))), ("adds", STAR, (0, 1, 2), ("apart", (0, 1))),
)


def few(book):
    """All lots of two or three places."""
    return [lot for many in (2, 3) for lot in itertools.combinations(range(book[1]), many)]


class Papers(Case):
    def test_there_is_always_one(self):
        for book in (*MORE_BOOKS, *GREAT_BOOKS, *EIGHT):
            for lot in few(book):
                paper = leave_paper(book, lot)
                self.assertIs(type(paper), tuple)
                self.exact(lets_left(book, lot, paper), paper[0])

    def test_words_as_the_parts_are(self):
        for book in MORE_BOOKS:
            for lot in few(book):
                together = any(set(lot) <= set(part) for part in parts_of(book))
                self.exact(leave_paper(book, lot)[0] == "apart", not together)

    def test_papers_of_others(self):
        for book in MORE_BOOKS:
            for lot in few(book):
                self.check_closings(book, lot)
                self.check_aways(book, lot)

    def check_closings(self, book, lot):
        for word in ("pair",) if len(lot) == 2 else ("ring", "star"):
            right = plain.closings(book, lot, JUDGES[word])
            for closed in lots_of(book[1]):
                if closed in right:
                    self.exact(lets_left(book, lot, (word, closed)), word)
                else:
                    fault = "closed" if set(closed) & set(lot) else "left"
                    self.refused(InvalidPaper, {"word": fault, "at": -1}, lets_left, book, lot, (word, closed))

    def check_aways(self, book, lot):
        for away in lots_of(book[1]):
            whole = all(set(part) <= set(away) or not set(part) & set(away) for part in parts_of(book))
            if len(set(away) & set(lot)) in (0, len(lot)):
                self.refused(InvalidPaper, {"word": "some", "at": -1}, lets_left, book, lot, ("apart", away))
            elif whole:
                self.exact(lets_left(book, lot, ("apart", away)), "apart")
            else:
                self.refused(InvalidPaper, {"word": "adds", "at": -1}, lets_left, book, lot, ("apart", away))

    def test_each_entry_in_order(self):
        for word, book, lot, thing in FAULTS:
            with self.subTest(book=book, lot=lot, thing=thing):
                self.refused(InvalidPaper, {"word": word, "at": -1}, lets_left, book, lot, thing)

    def test_the_lot_is_refused_first(self):
        for bad in (*BAD_LOTS, (), (0,), (2, 1), (0, 1, 3), [0, 1]):
            self.refused(NotUsable, {"word": "lot", "at": -1}, leave_paper, RING, bad)
            self.refused(NotUsable, {"word": "lot", "at": -1}, lets_left, RING, bad, None)
        self.refused(NotUsable, {"word": "lot", "at": -1}, leave_paper, BOTH, (0, 1, 2, 3))
        self.refused(NotUsable, {"word": "lot", "at": -1}, lets_left, BOTH, (0, 1, 2, 3), ("apart", (0, 1, 2)))
        self.refused(NotUsable, {"word": "lot", "at": -1}, leave_paper, (2, 0, ()), ())


if __name__ == "__main__":
    unittest.main()
