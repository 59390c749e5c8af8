"""Books cut and closed at lots, and what is left by both."""

from cutorclose.kinds import is_lot, is_number, lead_of
from cutorclose.needs import need
from cutorclose.settling import picked, settled


def kept_by(size, lot):
    """The set of all places, of so many, that are not in the lot."""
    need(is_number(size), "size")
    need(is_lot(size, lot), "lot")
    return tuple([place for place in range(size) if place not in lot])


def cut_at(book, lot):
    """The book of the words cut to all other places."""
    prime, size, rows = book
    kept = kept_by(size, lot)
    return (prime, len(kept), settled(prime, [picked(row, kept) for row in rows]))


def closed_at(book, lot):
    """The book of the words that are 0 on the lot, cut to all other places."""
    prime, size, rows = book
    kept = kept_by(size, lot)
    many = len(lot)
    # With the lot put in front, the words that are 0 on it are the sums of the settled rows that
    # begin behind it; and these are settled behind it, too.
    turned = settled(prime, [picked(row, (*lot, *kept)) for row in rows])
    return (prime, len(kept), tuple([row[many:] for row in turned if lead_of(row) >= many]))


def left_by(book, closed, cut):
    """What is left of the book, closed at the one lot and then cut at the other."""
    size = book[1]
    need(is_lot(size, closed), "closed")
    need(is_lot(size, cut) and not share(closed, cut), "cut")
    kept = kept_by(size, closed)
    return cut_at(closed_at(book, closed), tuple([kept.index(place) for place in cut]))


def together(one, other):
    """The lot of the places of both lots, which have none in common."""
    return tuple(sorted([*one, *other]))


def share(one, other):
    """Whether both lots have a common place."""
    return any([place in other for place in one])
