"""Whether a rule fits a book, shown by a clash if it does not, and the one worth if it does."""

from cutorclose.equations import failing
from cutorclose.errors import Unlike
from cutorclose.leavings import closed_for
from cutorclose.lots import places_of
from cutorclose.reckoning import worth_by
from cutorclose.takes import kept_by, together


def fits(book, rule):
    """Whether the rule fits the book."""
    return len(failing(book, rule)) == 0


def clash_of(book, rule):
    """A clash: what is left of two or three places, and two orders with different worths; None if it fits."""
    equations = failing(book, rule)
    if len(equations) == 0:
        return None
    return clash_by(book, equations[0])


def worth_of(book, rule):
    """The worth of a rule that fits; Unlike with a clash otherwise."""
    clash = clash_of(book, rule)
    if clash is not None:
        raise Unlike(clash)
    return worth_by(book, rule, places_of(book))


def clash_by(book, equation):
    """The clash at the first equation that fails.

    An equation of a pair comes ahead of all others. So where it is of a ring or a star, the two
    places that the orders exchange agree as a pair, and both worths differ by just its gap.
    """
    places = equation[1:]
    lot = tuple(sorted(places))
    closed = closed_for(book, equation[0], lot)
    cut = kept_by(book[1], together(lot, closed))
    first = tuple([lot.index(place) for place in places])
    return ("clash", closed, cut, first, (first[1], first[0], *first[2:]))
