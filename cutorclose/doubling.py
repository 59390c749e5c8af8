"""One place made two: alike, or in a row."""

from cutorclose.books import checks_of
from cutorclose.kinds import is_below
from cutorclose.needs import need


def twinned(book, place):
    """The book with one place more, right behind the place, where each word has the place's digit."""
    prime, size, rows = book
    need(is_below(size, place), "place")
    # The first digits that are not 0 stay the first ones, so the rows stay settled.
    return (prime, size + 1, tuple([(*row[:place + 1], *row[place:]) for row in rows]))


def rowed(book, place):
    """The book whose checks are those of the book, twinned."""
    return checks_of(twinned(checks_of(book), place))
