"""One place made two [65] [66]."""

import unittest

from cutorclose.bookchecker import lets_book
from cutorclose.books import checks_of, words_of
from cutorclose.doubling import rowed, twinned
from cutorclose.errors import NotUsable
from cutorclose.lots import kind_at
from cutorclose.partings import part_at
from cutorclose.takes import closed_at, cut_at
from cutorclose.twins import are_alike, are_in_row
from tests import plain
from tests.support import BAD_PLACES, BOTH, GREAT_BOOKS, LONE, RING, SMALL_BOOKS, STAR, WIDE, Case, refusal


def doubled(book, place):
    """The book twinned, by its words."""
    found = {(*word[:place + 1], word[place], *word[place + 1:]) for word in plain.words(book)}
    return plain.book(book[0], book[1] + 1, found)


class Doubling(Case):
    def test_by_the_words(self):
        for book in (*SMALL_BOOKS, *GREAT_BOOKS):
            for place in range(book[1]):
                told = twinned(book, place)
                self.exact(told, doubled(book, place))
                self.exact(lets_book(told), len(book[2]))
                self.exact(list(words_of(told)), sorted(plain.words(doubled(book, place))))

    def test_by_the_checks(self):
        for book in SMALL_BOOKS:
            for place in range(book[1]):
                told = rowed(book, place)
                self.exact(plain.checks(told), doubled(plain.checks(book), place))
                self.exact(lets_book(told), len(book[2]) + 1)
        for book in GREAT_BOOKS:
            for place in range(book[1]):
                self.exact(checks_of(rowed(book, place)), twinned(checks_of(book), place))

    def test_edges(self):
        self.exact(twinned((7, 1, ((1,),)), 0), (7, 2, ((1, 1),)))
        self.exact(rowed((7, 1, ((1,),)), 0), (7, 2, ((1, 0), (0, 1))))
        self.exact(twinned((7, 1, ()), 0), (7, 2, ()))
        self.exact(rowed((7, 1, ()), 0), (7, 2, ((1, 6),)))
        self.exact(twinned(WIDE, 3), (3, 5, ((1, 0, 1, 1, 1), (0, 1, 1, 2, 2))))
        self.exact(twinned(RING, 0), (2, 4, ((1, 1, 0, 1), (0, 0, 1, 1))))
        self.exact(twinned(STAR, 2), (2, 4, ((1, 1, 1, 1),)))

    def test_refused(self):
        for call in (twinned, rowed):
            for bad in BAD_PLACES:
                self.refused(NotUsable, refusal("place"), call, RING, bad)
            self.refused(NotUsable, refusal("place"), call, (2, 0, ()), 0)
            self.refused(NotUsable, refusal("place"), call, BOTH, 6)


class Consequences(Case):
    def check_twins(self, book, place, told, alike):
        """What is said of a place twinned; book and told are the checks where it is rowed."""
        kind = kind_at(book, place)
        if kind == "idle":
            self.exact((kind_at(told, place), kind_at(told, place + 1)), ("idle", "idle"))
        else:
            self.exact(alike(place, place + 1), True)
            self.assertTrue(plain.alike(told, place, place + 1))
        if kind == "alone":
            self.exact(part_at(told, place), (place, place + 1))

    def test_twinned(self):
        for book in (*SMALL_BOOKS, *GREAT_BOOKS, LONE):
            for place in range(book[1]):
                told = twinned(book, place)
                self.check_twins(book, place, told, lambda one, other: are_alike(told, one, other))
                self.exact(cut_at(told, (place + 1,)), book)
                self.exact(cut_at(told, (place,)), book)

    def test_rowed(self):
        for book in (*SMALL_BOOKS, LONE, BOTH, WIDE):
            for place in range(book[1]):
                told = rowed(book, place)
                self.check_twins(plain.checks(book), place, plain.checks(told), lambda one, other: are_in_row(told, one, other))
                self.exact(closed_at(told, (place + 1,)), book)

    def test_kinds_stay(self):
        for book in SMALL_BOOKS:
            for place in range(book[1]):
                others = [kind_at(book, each) for each in range(book[1]) if each != place]
                for told in (twinned(book, place), rowed(book, place)):
                    its = [kind_at(told, each) for each in range(book[1] + 1) if each not in (place, place + 1)]
                    self.exact(its, others)


if __name__ == "__main__":
    unittest.main()
