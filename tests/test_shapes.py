"""Shape [32]."""

import itertools
import unittest

from cutorclose.books import checks_of
from cutorclose.errors import InvalidPaper, NotUsable
from cutorclose.knots import bonds_of, knots_of
from cutorclose.leavings import pair_left, ring_left, star_left
from cutorclose.lots import kind_at
from cutorclose.partings import adds_up, part_at, parts_of
from cutorclose.shapeclasses import Shape
from tests.support import BAD_PLACES, BOTH, LONE, ODD_VALUES, RING, SMALL_BOOKS, STAR, WIDE, Case, lots_of
from tests.test_bookchecker import FAULTS
from tests.test_lots import BAD_LOTS


def refusal(word):
    return {"word": word, "at": -1}


class Shapes(Case):
    def test_all_that_it_tells(self):
        for book in (*SMALL_BOOKS, BOTH, WIDE):
            one, parts = Shape(book), parts_of(book)
            self.exact(one.form_now, book)
            self.exact((one.parts_now, one.knots_now, one.bonds_now), (parts, knots_of(book), bonds_of(book)))
            self.exact((len(one), list(one)), (len(parts), list(parts)))
            self.exact(one.kinds(), tuple(kind_at(book, place) for place in range(book[1])))
            self.exact((~one).form_now, checks_of(book))
            self.assertIs(type(~one), Shape)
            for place in range(book[1]):
                self.exact(one[place], part_at(book, place))
            for lot in lots_of(book[1]):
                self.exact(one(lot), adds_up(book, lot))
                self.exact(lot in one, lot in parts)
                self.exact(list(lot) in one, False)

    def test_pairs_rings_and_stars(self):
        for book in (*SMALL_BOOKS, BOTH, WIDE):
            one = Shape(book)
            for place, other in itertools.permutations(range(book[1]), 2):
                self.exact(one.pair(place, other), pair_left(book, place, other))
            for lot in itertools.combinations(range(book[1]), 3):
                self.exact(one.ring(lot), ring_left(book, lot))
                self.exact(one.star(lot), star_left(book, lot))

    def test_by_name(self):
        one = Shape(book=WIDE)
        self.exact(one(lot=(0, 1)), False)
        self.exact(one.pair(other=1, place=0), pair_left(WIDE, 0, 1))
        self.exact(one.ring(lot=(0, 1, 2)), ())
        self.exact(one.star(lot=(0, 1, 2)), (3,))
        self.exact(one.like(other=one), True)

    def test_a_value_that_is_no_book(self):
        for word, at, thing in FAULTS:
            self.refused(InvalidPaper, {"word": word, "at": at}, Shape, thing)

    def test_their_errors(self):
        one = Shape(RING)
        for bad in BAD_PLACES:
            self.refused(NotUsable, refusal("place"), lambda: one[bad])
            self.refused(NotUsable, refusal("place"), one.pair, bad, bad)
            self.refused(NotUsable, refusal("other"), one.pair, 0, bad)
        self.refused(NotUsable, refusal("other"), one.pair, 2, 2)
        for bad in BAD_LOTS:
            self.refused(NotUsable, refusal("lot"), one, bad)
        for bad in (*BAD_LOTS, (), (0, 1), (0, 1, 3)):
            self.refused(NotUsable, refusal("lot"), one.ring, bad)
            self.refused(NotUsable, refusal("lot"), one.star, bad)

    def test_parts_in_it(self):
        for thing in (*ODD_VALUES, (0, True, 2), [0, 1, 2], (0, 1), (2, 1, 0)):
            self.exact(thing in Shape(BOTH), False)
        self.exact((1,) in Shape((2, 2, ())), True)
        self.exact((True,) in Shape((2, 2, ())), False)
        self.exact((False,) in Shape((2, 2, ())), False)
        self.exact(() in Shape((2, 0, ())), False)

    def test_equal(self):
        for one, other in itertools.product(SMALL_BOOKS[::7], repeat=2):
            self.exact(Shape(one) == Shape(other), one == other)
            self.exact(Shape(one) != Shape(other), one != other)
        for other in (*ODD_VALUES, RING, parts_of(RING)):
            self.exact(Shape(RING) == other, False)

    def test_like(self):
        for one, other in itertools.product(SMALL_BOOKS[::3], repeat=2):
            told = [(parts_of(book), knots_of(book), bonds_of(book)) for book in (one, other)]
            self.exact(Shape(one).like(Shape(other)), told[0] == told[1])
        # Books of two primes, or with other words, can be like one another.
        self.exact(Shape((2, 2, ((1, 1),))).like(Shape((7, 2, ((1, 3),)))), True)
        self.exact(Shape(RING).like(Shape(STAR)), False)
        self.exact(Shape((2, 1, ())).like(Shape((2, 1, ((1,),)))), False)
        for other in (*ODD_VALUES, RING, parts_of(RING)):
            self.refused(NotUsable, refusal("other"), Shape(RING).like, other)

    def test_never_changes(self):
        one = Shape(LONE)
        before = (one.form_now, one.parts_now, one.knots_now, one.bonds_now)
        for call in (lambda: ~one, lambda: one.kinds(), lambda: list(one).clear(), lambda: one.like(one), lambda: one((0,)),
                     lambda: one[0], lambda: one.pair(0, 1), lambda: one.ring((0, 1, 2)), lambda: one.star((0, 1, 2))):
            call()
            self.exact((one.form_now, one.parts_now, one.knots_now, one.bonds_now), before)
            self.exact(list(one), list(before[1]))
        for name in ("form_now", "parts_now", "knots_now", "bonds_now"):
            with self.assertRaises(AttributeError):
                setattr(one, name, 1)

    def test_no_places(self):
        one = Shape((5, 0, ()))
        self.exact((len(one), list(one), one.kinds(), one.knots_now, one.bonds_now, one(())), (0, [], (), (), (), True))


if __name__ == "__main__":
    unittest.main()
