"""Tables of how many lots of each size have each rank, and sums by them."""

from cutorclose.kinds import is_number, is_quotient_pair, is_tuple_of
from cutorclose.lots import rank_of
from cutorclose.lotsums import tie_powers
from cutorclose.masks import all_lots, ranks_of
from cutorclose.needs import need
from cutorclose.quotients import multiplied, raised, summed


def rank_table(book):
    """For each size of lots the tuple of how many have each rank, up to the rank of the book."""
    size, whole = book[1], rank_of(book)
    kinds = [(len(lot), rank) for lot, rank in zip(all_lots(size), ranks_of(book))]
    return tuple([tuple([kinds.count((k, r)) for r in range(whole + 1)]) for k in range(size + 1)])


def table_sum(book, pair, tie):
    """The sum over all lots with this pair of closed and cut numbers at all places."""
    need(is_quotient_pair(pair), "pair")
    need(is_quotient_pair(tie), "tie")
    table = rank_table(book)
    spots = [(k, r) for k in range(len(table)) for r in range(len(table[k])) if table[k][r] > 0]
    return summed([term_at(table, pair, tie, k, r) for k, r in spots])


def checks_table(table):
    """The table of the checks of a book with this table."""
    need(is_table(table), "table")
    size, whole = len(table) - 1, len(table[0]) - 1
    spots = [[(size - k, r - k + whole) for r in range(size - whole + 1)] for k in range(size + 1)]
    return tuple([tuple([number_at(table, k, r) for k, r in row]) for row in spots])


def term_at(table, pair, tie, k, r):
    """What the lots of size k and rank r, of which there are some, give to the sum."""
    size, whole = len(table) - 1, len(table[0]) - 1
    closed, cut = pair
    number = (table[k][r], 1)
    return multiplied([number, raised(closed, k), raised(cut, size - k), tie_powers(tie, whole - r, k - r)])


def number_at(table, k, r):
    """The number r of the tuple k, 0 where there is none."""
    return table[k][r] if 0 <= r < len(table[k]) else 0


def is_table(thing):
    """Whether any value can be a table, by its form and by where it has to be 0."""
    if not isinstance(thing, tuple) or len(thing) == 0 or not isinstance(thing[0], tuple):
        return False
    size, many = len(thing) - 1, len(thing[0])
    if many == 0 or many > size + 1:
        return False
    return all([is_row(size, many - 1, k, row) for k, row in enumerate(thing)])


def is_row(size, whole, k, thing):
    """Whether any value can be the tuple k of a table, its last one being of this size and rank."""
    if not is_tuple_of(whole + 1, thing) or not all([is_number(number) for number in thing]):
        return False
    # No lot has a rank above its size, nor more places above its rank than the book has.
    return all([number == 0 or k - size + whole <= r <= k for r, number in enumerate(thing)])
