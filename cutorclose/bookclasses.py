"""Books as objects."""

from cutorclose.bookchecker import lets_book
from cutorclose.bookreadings import read_book
from cutorclose.books import beside, checks_of, has_word, span_of
from cutorclose.booktexts import book_line
from cutorclose.kinds import is_number, is_prime, is_word
from cutorclose.lots import kind_at, rank_of, rank_on
from cutorclose.needs import need, need_two_places
from cutorclose.takes import closed_at, cut_at, left_by


class Book:
    """A book as an object that never changes."""

    def __init__(self, book):
        lets_book(book)
        self._form = book
        self._rows = book[2]

    @property
    def form_now(self):
        """The book."""
        return self._form

    @property
    def prime_now(self):
        """Its prime."""
        return self._form[0]

    @property
    def size_now(self):
        """How many places it has."""
        return self._form[1]

    @property
    def rank_now(self):
        """Its rank."""
        return rank_of(self._form)

    def __getitem__(self, at):
        return kind_at(self._form, at)

    def __call__(self, lot):
        return rank_on(self._form, lot)

    def cut(self, lot):
        """The Book cut at the lot."""
        return Book(cut_at(self._form, lot))

    def closed(self, lot):
        """The Book closed at the lot."""
        return Book(closed_at(self._form, lot))

    def left(self, closed, cut):
        """The Book of what is left by both lots."""
        return Book(left_by(self._form, closed, cut))

    def __invert__(self):
        return Book(checks_of(self._form))

    def __add__(self, other):
        need(isinstance(other, Book), "other")
        return Book(beside(self._form, other.form_now))

    def __contains__(self, x):
        return is_word(self.prime_now, self.size_now, x) and has_word(self._form, x)

    def __len__(self):
        return len(range(self._form[1]))

    def __iter__(self):
        return iter(self._rows)

    def __str__(self):
        return str(book_line(self._form))

    def __eq__(self, other):
        return isinstance(other, Book) and self._form == other._form

    @classmethod
    def read(cls, text):
        """The Book whose line the string is."""
        return Book(read_book(text))

    @classmethod
    def span(cls, prime, size, *words):
        """The Book of all sums of multiples of the words."""
        return Book(span_of(prime, size, words))


class Flat(Book):
    """The book of all words whose digits sum up to 0."""

    def __init__(self, prime, size):
        need(is_prime(prime), "prime")
        need(is_number(size) and size >= 1, "size")
        super().__init__((prime, size, flat_rows(prime, size)))

    def pair_word(self, place, other):
        """The word with 1 at place, and at other the digit that is needed."""
        need_two_places(self.size_now, place, other, "place")
        return two_digits(self.prime_now, self.size_now, place, other)


def two_digits(prime, size, place, other):
    """The word of a sum of 0 with 1 at place, and digits other than 0 only there and at other."""
    word = [0 for _ in range(size)]
    word[place] = 1
    word[other] = prime - 1
    return tuple(word)


def flat_rows(prime, size):
    """The settled rows of all words whose digits sum up to 0."""
    return tuple([two_digits(prime, size, place, size - 1) for place in range(size - 1)])
