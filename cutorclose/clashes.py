"""Clashes: two orders of what is left of two or three places that come to different worths."""

from cutorclose.equations import failing
from cutorclose.leavings import closed_for
from cutorclose.takes import kept_by


def clash_in(book, rule):
    """A clash of the rule, or None if it fits."""
    equations = failing(book, rule)
    if len(equations) == 0:
        return None
    return clash_by(book, equations[0])


def clash_by(book, equation):
    """The clash at the first equation that fails.

    An equation of a pair comes ahead of all others. So where it is of a ring or a star, the two
    places that the orders exchange agree as a pair, and both worths differ by just its gap.
    """
    places = equation[1:]
    lot = tuple(sorted(places))
    closed = closed_for(book, equation[0], lot)
    cut = kept_by(book[1], tuple(sorted([*lot, *closed])))
    first = tuple([lot.index(place) for place in places])
    return ("clash", closed, cut, first, (first[1], first[0], *first[2:]))
