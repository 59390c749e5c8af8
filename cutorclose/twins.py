"""Places that are alike, or in a row."""

from cutorclose.books import checks_of
from cutorclose.lots import kind_at, rank_on
from cutorclose.needs import need_two_places


def are_alike(book, one, other):
    """Whether both places are ordinary and their lot has rank 1."""
    need_two_places(book[1], one, other, "one")
    if kind_at(book, one) != "ordinary" or kind_at(book, other) != "ordinary":
        return False
    return rank_on(book, (min(one, other), max(one, other))) == 1


def are_in_row(book, one, other):
    """Whether both places are alike in the checks."""
    return are_alike(checks_of(book), one, other)


def alike_sets(book):
    """The set of the lots, of two places at least, of places that are alike, each as great as can be."""
    # What is alike to one place is alike among itself, so that each lot is told by its first place.
    lots = [alike_with(book, place) for place in range(book[1])]
    return tuple([lot for place, lot in enumerate(lots) if len(lot) >= 2 and lot[0] == place])


def row_sets(book):
    """The set of the lots, of two places at least, of places in a row, each as great as can be."""
    return alike_sets(checks_of(book))


def alike_with(book, place):
    """The lot of the place and all that are alike to it."""
    return tuple([other for other in range(book[1]) if other == place or are_alike(book, place, other)])
