"""The checker of parcels, whoever made them."""

from cutorclose.errors import InvalidPaper
from cutorclose.kinds import is_lot, is_tuple_of
from cutorclose.lots import is_free, rank_of, rank_on
from cutorclose.parcels import greatest_of, least_of, lies_within
from cutorclose.takes import share, together


def lets_parcels(book, thing):
    """How many triples there are, if each lot stands in just one of their parcels; InvalidPaper for any other value."""
    if not isinstance(thing, tuple):
        raise InvalidPaper("shape", -1)
    for k, parcel in enumerate(thing):
        word = parcel_fault(book, parcel)
        if word is not None:
            raise InvalidPaper(word, k)
        for j, ahead in enumerate(thing[:k]):
            if meet(parcel, ahead):
                raise InvalidPaper("meets", (k, j))
    # No lot stands in two of them, so they have all lots if they have so many.
    if sum([lots_in(parcel) for parcel in thing]) != 1 << book[1]:
        raise InvalidPaper("whole", -1)
    return len(thing)


def parcel_fault(book, thing):
    """What is wrong with a triple by itself, as a word, or None."""
    if not is_tuple_of(3, thing) or not all([is_lot(book[1], lot) for lot in thing]):
        return "triple"
    basis, lone, idle = thing
    if len(basis) != rank_of(book) or not is_free(book, basis):
        return "basis"
    if not lies_within(lone, basis):
        return "lone"
    if share(idle, basis):
        return "idle"
    least = least_of(thing)
    return None if rank_on(book, together(least, idle)) == len(least) else "rank"


def meet(one, other):
    """Whether some lot stands in the parcels of both."""
    # If one does, so does the least lot that has the least ones of both, each of which lies within its own greatest.
    places, others = least_of(one), least_of(other)
    return lies_within(places, greatest_of(other)) and lies_within(others, greatest_of(one))


def lots_in(parcel):
    """How many lots stand in the parcel."""
    return 1 << (len(parcel[1]) + len(parcel[2]))
