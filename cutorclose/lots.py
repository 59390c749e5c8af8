"""Lots of places: their ranks, free lots, bases, and the kinds of places."""

from cutorclose.kinds import is_below, is_lot
from cutorclose.needs import need
from cutorclose.settling import picked, settled


def rank_of(book):
    """How many rows the book has."""
    return len(book[2])


def rank_on(book, lot):
    """The rank of the book of the words cut to the lot."""
    prime, size, rows = book
    need(is_lot(size, lot), "lot")
    return len(settled(prime, [picked(row, lot) for row in rows]))


def is_free(book, lot):
    """Whether the rank of the lot is its size."""
    return rank_on(book, lot) == len(lot)


def kind_at(book, place):
    """Whether the place is "idle", "alone" or "ordinary"."""
    size, rows = book[1:]
    need(is_below(size, place), "place")
    held = [row for row in rows if row[place] != 0]
    if len(held) == 0:
        return "idle"
    # All other places lack a rank just where the word with 1 at this place and 0 elsewhere is in
    # the book; in settled form it is then a row, and the only one that is not 0 there.
    if held[0].count(0) == size - 1:
        return "alone"
    return "ordinary"


def bases_of(book):
    """The set of all free lots of as many places as the book's rank."""
    lots = lots_within(places_of(book), rank_of(book))
    return tuple([lot for lot in lots if is_free(book, lot)])


def places_of(book):
    """The lot of all places."""
    return tuple(range(book[1]))


def lots_within(lot, many):
    """A list of all lots of so many places that lie within the lot, ascending."""
    lots = [()]
    for _ in range(many):
        lots = [(*front, place) for front in lots for place in lot if front == () or place > front[-1]]
    return lots
