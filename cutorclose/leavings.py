"""What can be left of a book as a pair, a ring, a star."""

from cutorclose.kinds import is_lot
from cutorclose.lots import lots_within, places_of
from cutorclose.masks import lot_of, mask_of, ranks_of
from cutorclose.needs import need, need_two_places

# A pair, a ring and a star are each told by their rank: each lot of so many of their places is free.
RANKS = {"pair": 1, "ring": 2, "star": 1}


def pair_left(book, one, other):
    """A lot by which, closed, both places are left as a pair, or None."""
    need_two_places(book[1], one, other, "one")
    return closed_for(book, "pair", (min(one, other), max(one, other)))


def ring_left(book, lot):
    """A lot by which, closed, the three places are left as a ring, or None."""
    need_three(book, lot)
    return closed_for(book, "ring", lot)


def star_left(book, lot):
    """A lot by which, closed, the three places are left as a star, or None."""
    need_three(book, lot)
    return closed_for(book, "star", lot)


def pairs_of(book):
    """The set of the lots of two places that can be left as a pair."""
    return lots_left(book, 2, RANKS["pair"])


def rings_of(book):
    """The set of the lots of three places that can be left as a ring."""
    return lots_left(book, 3, RANKS["ring"])


def stars_of(book):
    """The set of the lots of three places that can be left as a star."""
    return lots_left(book, 3, RANKS["star"])


def closed_for(book, word, lot):
    """A lot by which, closed, the lot is left as a pair, a ring or a star, as the word says; or None."""
    return closing(ranks_of(book), lot, RANKS[word])


def need_three(book, lot):
    """Refuse what is no lot of three places of the book."""
    need(is_lot(book[1], lot) and len(lot) == 3, "lot")


def lots_left(book, many, rank):
    """The set of the lots of so many places for which there is a closing with this rank."""
    ranks = ranks_of(book)
    lots = lots_within(places_of(book), many)
    return tuple([lot for lot in lots if closing(ranks, lot, rank) is not None])


def closing(ranks, lot, rank):
    """A lot of other places, closed, which leaves the lot this rank, and each so many of it free; or None."""
    whole = mask_of(lot)
    somes = [mask_of(some) for some in lots_within(lot, rank)]
    for closed in range(len(ranks)):
        if (closed & whole) == 0 and is_left(ranks, closed, whole, somes, rank):
            return lot_of(closed)
    return None


def is_left(ranks, closed, whole, somes, rank):
    """Whether the masks whole and somes all have this rank above that of the mask closed."""
    wanted = ranks[closed] + rank
    return ranks[closed | whole] == wanted and all([ranks[closed | some] == wanted for some in somes])
