"""Lots as masks, integers with a bit for each place, and the ranks of all lots at once."""

from cutorclose.settling import joined


def mask_of(lot):
    """The integer with just the bits of the lot's places."""
    return sum([1 << place for place in lot])


def lot_of(mask):
    """The lot of the places whose bits the mask has."""
    return tuple([place for place in range(mask.bit_length()) if (mask >> place) & 1 == 1])


def all_lots(size):
    """A list of all lots of so many places, each at the index of its mask."""
    return [lot_of(mask) for mask in range(1 << size)]


def ranks_of(book):
    """A list of the ranks of all lots, each at the index of its mask."""
    prime, size, rows = book
    columns = [tuple([row[place] for row in rows]) for place in range(size)]
    # The rank of a lot is also that of its columns, which go on from a lot with a place less.
    spans = [[]]
    for mask in range(1, 1 << size):
        last = mask.bit_length() - 1
        spans.append(joined(prime, spans[mask - (1 << last)], columns[last]))
    return [len(span) for span in spans]
