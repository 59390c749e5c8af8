"""The parts of a book."""

from cutorclose.kinds import is_below
from cutorclose.lots import rank_of, rank_on
from cutorclose.needs import need
from cutorclose.takes import kept_by, share


def parts_of(book):
    """The set of the book's parts."""
    size, rows = book[1:]
    parts = [(place,) for place in range(size)]
    # A place that is no lead is in a knot with the leads of just those rows that are not 0 there,
    # and these knots of one basis hang together as all knots do: so the places of a row do, too.
    for row in rows:
        parts = put_together(parts, tuple([place for place in range(size) if row[place] != 0]))
    return tuple(sorted(parts))


def part_at(book, place):
    """The part of the place."""
    need(is_below(book[1], place), "place")
    return [part for part in parts_of(book) if place in part][0]


def adds_up(book, lot):
    """Whether the rank of the lot and that of all other places come to the book's together."""
    return rank_on(book, lot) + rank_on(book, kept_by(book[1], lot)) == rank_of(book)


def put_together(parts, lot):
    """A list of the parts, those that have places of the lot made one."""
    apart = [part for part in parts if not share(part, lot)]
    places = [place for part in parts if share(part, lot) for place in part]
    return [*apart, tuple(sorted(places))]
