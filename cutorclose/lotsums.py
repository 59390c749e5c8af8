"""Sums over all lots, by a tie."""

from cutorclose.kinds import is_quotient_pair, is_tuple_of
from cutorclose.lots import rank_of, rank_on
from cutorclose.masks import all_lots, ranks_of
from cutorclose.needs import need
from cutorclose.quotients import multiplied, raised, summed, times
from cutorclose.tyings import tied_four


def tied_rule(pairs, tie):
    """The rule with these closed and cut numbers at all whose places the tie holds."""
    need(isinstance(pairs, tuple) and is_pairs(len(pairs), pairs), "pairs")
    need(is_quotient_pair(tie), "tie")
    return tuple([tied_four(pair, tie) for pair in pairs])


def lot_term(book, pairs, tie, lot):
    """What the lot gives to the sum."""
    need_pairs_and_tie(book, pairs, tie)
    rank = rank_on(book, lot)
    return term_by(rank_of(book), pairs, tie, lot, rank)


def lot_sum(book, pairs, tie):
    """The sum over all lots."""
    need_pairs_and_tie(book, pairs, tie)
    whole = rank_of(book)
    lots = all_lots(book[1])
    return summed([term_by(whole, pairs, tie, lot, rank) for lot, rank in zip(lots, ranks_of(book))])


def need_pairs_and_tie(book, pairs, tie):
    """Refuse what has not a pair of quotients for each place, or is no tie."""
    need(is_pairs(book[1], pairs), "pairs")
    need(is_quotient_pair(tie), "tie")


def is_pairs(size, thing):
    """Whether any value is a tuple of so many pairs of quotients."""
    return is_tuple_of(size, thing) and all([is_quotient_pair(pair) for pair in thing])


def pairs_in(rule):
    """The closed and cut numbers of a rule."""
    return tuple([four[:2] for four in rule])


def term_by(whole, pairs, tie, lot, rank):
    """What a lot of this rank gives to the sum of a book of the rank whole."""
    numbers = [pair[0] if place in lot else pair[1] for place, pair in enumerate(pairs)]
    return times(multiplied(numbers), tie_powers(tie, whole - rank, len(lot) - rank))


def tie_powers(tie, lack, excess):
    """The product of u to the power of what a lot lacks of the rank, and v to that by which it exceeds its own."""
    u, v = tie
    return times(raised(u, lack), raised(v, excess))
