"""Papers of what can be left."""

from cutorclose.leavechecker import need_two_or_three
from cutorclose.leavings import pair_left, ring_left, star_left
from cutorclose.partings import part_at


def leave_paper(book, lot):
    """A paper on the lot: how it is left as a pair, a ring or a star, or that it is apart."""
    need_two_or_three(book, lot)
    for word, closed in figures(book, lot):
        if closed is not None:
            return (word, closed)
    # Places of one part can be left so; of these, then, the part of the first one lacks some.
    return ("apart", part_at(book, lot[0]))


def figures(book, lot):
    """A list of pairs of a word and the lot to be closed for it, or None."""
    if len(lot) == 2:
        return [("pair", pair_left(book, lot[0], lot[1]))]
    return [("ring", ring_left(book, lot)), ("star", star_left(book, lot))]
