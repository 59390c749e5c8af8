"""The chances of lots whose places stay each with its own odds."""

from cutorclose.kinds import is_quotient, is_tuple_of
from cutorclose.lots import rank_of
from cutorclose.lotsums import lot_sum, term_by
from cutorclose.masks import all_lots, ranks_of
from cutorclose.needs import need
from cutorclose.quotients import NOUGHT, ONE, minus, summed


def chance_full(book, odds):
    """The chance that the lot of the places that stay has the rank of the book."""
    return lot_sum(book, pairs_by(book, odds), (NOUGHT, ONE))


def chance_free(book, odds):
    """The chance that the lot of the places that stay is free."""
    return lot_sum(book, pairs_by(book, odds), (ONE, NOUGHT))


def lack_table(book, odds):
    """For each l the tuple, for each s, of the chance of a rank l less than the book's and a size s more than it."""
    pairs = pairs_by(book, odds)
    size, whole = book[1], rank_of(book)
    chances = [lot_chance(whole, pairs, lot, rank) for lot, rank in zip(all_lots(size), ranks_of(book))]
    spots = [[(lack, extra) for extra in range(size - whole + 1)] for lack in range(whole + 1)]
    return tuple([tuple([chance_at(chances, lack, extra) for lack, extra in row]) for row in spots])


def pairs_by(book, odds):
    """For each place the pair of its odds to stay, and to go."""
    need(is_tuple_of(book[1], odds) and all([is_chance(each) for each in odds]), "odds")
    return tuple([(each, minus(ONE, each)) for each in odds])


def is_chance(thing):
    """Whether any value is a quotient from nought to 1."""
    return is_quotient(thing) and 0 <= thing[0] <= thing[1]


def lot_chance(whole, pairs, lot, rank):
    """The triple of what the lot, of this rank, lacks of the rank whole, of how much greater it is, and its chance."""
    return (whole - rank, len(lot) - rank, term_by(whole, pairs, (ONE, ONE), lot, rank))


def chance_at(chances, lack, extra):
    """The chance of all lots that lack so much and are so much greater."""
    return summed([chance for its_lack, its_extra, chance in chances if (its_lack, its_extra) == (lack, extra)])
