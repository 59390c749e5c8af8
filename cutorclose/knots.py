"""Knots, the lots that are just not free, and bonds, the knots of the checks."""

from cutorclose.books import checks_of
from cutorclose.kinds import is_below
from cutorclose.masks import all_lots, mask_of, ranks_of
from cutorclose.needs import need


def knots_of(book):
    """The set of all knots."""
    ranks = ranks_of(book)
    return tuple(sorted([lot for lot in all_lots(book[1]) if is_knot(ranks, lot)]))


def bonds_of(book):
    """The set of all bonds."""
    return knots_of(checks_of(book))


def knots_at(book, place):
    """The set of the knots that have the place."""
    need(is_below(book[1], place), "place")
    return tuple([knot for knot in knots_of(book) if place in knot])


def is_knot(ranks, lot):
    """Whether the lot is not free, while it is without whichever of its places."""
    mask = mask_of(lot)
    fewer = len(lot) - 1
    return ranks[mask] == fewer and all([ranks[mask - (1 << place)] == fewer for place in lot])
