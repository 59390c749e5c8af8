"""Book and Flat [22]."""

import itertools
import unittest

from cutorclose.bookclasses import Book, Flat
from cutorclose.bookreadings import read_book
from cutorclose.books import beside, checks_of, span_of
from cutorclose.booktexts import book_line
from cutorclose.errors import InvalidPaper, InvalidText, NotUsable
from cutorclose.lots import kind_at, rank_on
from cutorclose.takes import closed_at, cut_at, left_by
from tests import plain
from tests.support import BAD_PLACES, BOTH, GREAT_BOOKS, ODD_VALUES, RING, SMALL_BOOKS, STAR, WIDE, Case, lots_of
from tests.test_bookchecker import FAULTS
from tests.test_lines import FAULTS as TEXT_FAULTS
from tests.test_lots import BAD_LOTS


class Derived(Book):
    """A Book of a derived class."""


def refusal(word):
    return {"word": word, "at": -1}


class Books(Case):
    def test_properties(self):
        for book in (*SMALL_BOOKS, *GREAT_BOOKS):
            one = Book(book)
            self.exact(one.form_now, book)
            self.exact(one.prime_now, book[0])
            self.exact(one.size_now, book[1])
            self.exact(one.rank_now, len(book[2]))
            self.exact(len(one), book[1])
            self.exact(list(one), list(book[2]))
            self.exact(str(one), book_line(book))

    def test_a_value_that_is_no_book(self):
        for word, at, thing in FAULTS:
            self.refused(InvalidPaper, {"word": word, "at": at}, Book, thing)
            self.refused(InvalidPaper, {"word": word, "at": at}, Derived, book=thing)

    def test_items_calls_and_what_is_left(self):
        for book in SMALL_BOOKS:
            one = Book(book)
            for place in range(book[1]):
                self.exact(one[place], kind_at(book, place))
            for lot in lots_of(book[1]):
                self.exact(one(lot), rank_on(book, lot))
                self.exact(one.cut(lot).form_now, cut_at(book, lot))
                self.exact(one.closed(lot).form_now, closed_at(book, lot))
                self.exact(one.left(lot, ()).form_now, left_by(book, lot, ()))
                self.exact(one.left((), lot).form_now, left_by(book, (), lot))

    def test_by_name(self):
        one = Book(book=RING)
        self.exact(one(lot=(0, 1, 2)), 2)
        self.exact(one.cut(lot=(0,)).form_now, cut_at(RING, (0,)))
        self.exact(one.closed(lot=(0,)).form_now, closed_at(RING, (0,)))
        self.exact(one.left(cut=(1,), closed=(0,)).form_now, left_by(RING, (0,), (1,)))
        self.exact(Book.read(text="book 2 1").form_now, (2, 1, ()))
        self.exact(Book.span(size=1, prime=3).form_now, (3, 1, ()))
        self.exact(Flat(size=2, prime=3).pair_word(other=0, place=1), (2, 1))

    def test_their_errors(self):
        one = Book(RING)
        for bad in BAD_PLACES:
            self.refused(NotUsable, refusal("place"), lambda: one[bad])
        for bad in BAD_LOTS:
            self.refused(NotUsable, refusal("lot"), one, bad)
            self.refused(NotUsable, refusal("lot"), one.cut, bad)
            self.refused(NotUsable, refusal("lot"), one.closed, bad)
            self.refused(NotUsable, refusal("closed"), one.left, bad, bad)
            self.refused(NotUsable, refusal("cut"), one.left, (0,), bad)
        self.refused(NotUsable, refusal("cut"), one.left, (0, 1), (1,))

    def test_checks_and_beside(self):
        for book in SMALL_BOOKS:
            self.exact((~Book(book)).form_now, checks_of(book))
        for one, other in itertools.product(SMALL_BOOKS[::9], repeat=2):
            if one[0] == other[0]:
                self.exact((Book(one) + Book(other)).form_now, beside(one, other))
            else:
                self.refused(NotUsable, refusal("other"), lambda: Book(one) + Book(other))
        self.exact((Book(RING) + Flat(2, 3)).form_now, beside(RING, RING))
        for bad in (*ODD_VALUES, RING, WIDE):
            self.refused(NotUsable, refusal("other"), lambda: Book(RING) + bad)

    def test_all_books_told_are_of_the_class_itself(self):
        for one in (Derived(RING), Flat(2, 3)):
            told = (~one, one + one, one.cut((0,)), one.closed((0,)), one.left((0,), (1,)), one + Book(STAR), Book(STAR) + one)
            for book in told:
                self.assertIs(type(book), Book)
        self.assertIs(type(Book.read("book 2 1")), Book)
        self.assertIs(type(Book.span(2, 1, (1,))), Book)

    def test_words_in_a_book(self):
        for book in SMALL_BOOKS:
            one, words = Book(book), plain.words(book)
            for word in itertools.product(range(book[0]), repeat=book[1]):
                self.exact(word in one, word in words)
                self.exact(list(word) in one, False)
        for thing in (*ODD_VALUES, (1, True, 0), (1, 1), (1, 1, 0, 0), (3, 1, 0), [1, 1, 0]):
            self.exact(thing in Book(RING), False)
        self.exact(() in Book((2, 0, ())), True)

    def test_equal(self):
        for one, other in itertools.product(SMALL_BOOKS[::7], repeat=2):
            self.exact(Book(one) == Book(other), one == other)
            self.exact(Book(one) != Book(other), one != other)
        self.exact(Book(RING) == Derived(RING), True)
        self.exact(Derived(RING) == Flat(2, 3), True)
        self.exact(Flat(2, 3) == Book(STAR), False)
        for other in (*ODD_VALUES, RING, str(Book(RING))):
            self.exact(Book(RING) == other, False)

    def test_read(self):
        for book in SMALL_BOOKS:
            self.exact(Book.read(book_line(book)).form_now, read_book(book_line(book)))
        for text, field in TEXT_FAULTS:
            self.refused(InvalidText, {"line": 0, "field": field}, Book.read, text)
        for bad in (None, True, 0, ("book 2 0",), ["book 2 0"]):
            self.refused(NotUsable, refusal("text"), Book.read, bad)

    def test_span(self):
        words = ((1, 2, 0), (2, 2, 1), (0, 1, 2))
        for many in range(4):
            self.exact(Book.span(3, 3, *words[:many]).form_now, span_of(3, 3, words[:many]))
        self.refused(NotUsable, refusal("prime"), Book.span, 4, -1, None)
        self.refused(NotUsable, refusal("size"), Book.span, 2, True, None)
        self.refused(NotUsable, refusal("words"), Book.span, 2, 1, (1,), [1])
        self.refused(NotUsable, refusal("words"), Book.span, 2, 1, ((1,),))

    def test_never_changes(self):
        one = Book(BOTH)
        for call in (lambda: one.cut((0,)), lambda: one.closed((0, 3)), lambda: ~one, lambda: one + one, lambda: one.left((0,), (1,)),
                     lambda: list(one).clear(), lambda: one[0], lambda: one((0, 1)), lambda: str(one), lambda: (1,) in one):
            call()
            self.exact(one.form_now, BOTH)
            self.exact(list(one), list(BOTH[2]))
        for name in ("form_now", "prime_now", "size_now", "rank_now"):
            with self.assertRaises(AttributeError):
                setattr(one, name, 1)

    def test_forty_places(self):
        one = Flat(7, 40)
        self.exact((len(one), one.rank_now, (~one).form_now), (40, 39, (7, 40, ((1,) * 40,))))
        self.exact(Book.read(str(one)) == one, True)


class Flats(Case):
    def test_all_words_of_sum_nought(self):
        for prime in (2, 3, 5, 7):
            for size in (1, 2, 3):
                one = Flat(prime, size)
                wanted = {word for word in itertools.product(range(prime), repeat=size) if sum(word) % prime == 0}
                self.exact(one.form_now, plain.book(prime, size, wanted))
                self.assertIsInstance(one, Book)
                for place, other in itertools.permutations(range(size), 2):
                    word = one.pair_word(place, other)
                    self.exact((word[place], word[other], sum(word)), (1, prime - 1, prime))
                    self.exact(word in one, True)
                    self.exact(len(word), size)

    def test_refused(self):
        for bad in (4, True, None, "2", (2,), 0, RING):
            self.refused(NotUsable, refusal("prime"), Flat, bad, 0)
        for bad in (0, -1, True, None, "1", (1,)):
            self.refused(NotUsable, refusal("size"), Flat, 2, bad)

    def test_pair_word_refused(self):
        one = Flat(3, 3)
        for bad in BAD_PLACES:
            self.refused(NotUsable, refusal("place"), one.pair_word, bad, bad)
            self.refused(NotUsable, refusal("other"), one.pair_word, 0, bad)
        for place in range(3):
            self.refused(NotUsable, refusal("other"), one.pair_word, place, place)


if __name__ == "__main__":
    unittest.main()
