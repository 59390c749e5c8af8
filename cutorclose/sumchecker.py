"""The checker of papers of sums."""

from cutorclose.errors import InvalidPaper
from cutorclose.holdings import needs_no_tie
from cutorclose.kinds import is_lot, is_quotient, is_quotient_pair, is_tuple_of
from cutorclose.lots import rank_of, rank_on
from cutorclose.partsums import worth_on
from cutorclose.quotients import multiplied
from cutorclose.rulekinds import need_rule
from cutorclose.takes import kept_by, share
from cutorclose.tyings import holds_at


def lets_sum(book, rule, thing):
    """The product of the worths of a paper of sums; InvalidPaper for any other value."""
    need_rule(book, rule)
    if not is_tuple_of(2, thing) or thing[0] != "sums" or not isinstance(thing[1], tuple):
        raise InvalidPaper("shape", -1)
    blocks = thing[1]
    ahead = ()
    for k, block in enumerate(blocks):
        check_block(book, rule, k, block, ahead)
        ahead = (*ahead, *block[0])
    check_whole(book, blocks, ahead)
    return multiplied([block[2] for block in blocks])


def check_block(book, rule, k, block, ahead):
    """InvalidPaper unless the block k has places of its own, held by its tie, and comes to its worth."""
    if not is_block(book[1], block):
        raise InvalidPaper("block", k)
    lot, tie, worth = block
    if share(lot, ahead):
        raise InvalidPaper("again", k)
    if not is_held(book, rule, lot, tie):
        raise InvalidPaper("tie", k)
    if worth != worth_on(book, rule, lot, tie):
        raise InvalidPaper("worth", k)


def check_whole(book, blocks, ahead):
    """InvalidPaper unless the blocks, whose places are those ahead, have all places, and no rank too much."""
    lacking = kept_by(book[1], tuple(sorted(ahead)))
    if len(lacking) > 0:
        raise InvalidPaper("lacks", lacking[0])
    if sum([rank_on(book, block[0]) for block in blocks]) > rank_of(book):
        raise InvalidPaper("ranks", -1)


def is_block(size, thing):
    """Whether any value is a triple of a lot, a pair of quotients or None, and a quotient."""
    if not is_tuple_of(3, thing):
        return False
    lot, tie, worth = thing
    return is_lot(size, lot) and (tie is None or is_quotient_pair(tie)) and is_quotient(worth)


def is_held(book, rule, lot, tie):
    """Whether the tie holds all over the lot, or is None for two places at most that agree if they are a pair."""
    if tie is not None:
        return holds_at(rule, tie, lot)
    if len(lot) == 2 and is_pair(book, lot):
        return needs_no_tie(rule, lot)
    return len(lot) <= 2


def is_pair(book, lot):
    """Whether the two places of the lot are a pair by themselves: of rank 1, and none of them idle."""
    return [rank_on(book, some) for some in (lot, lot[:1], lot[1:])] == [1, 1, 1]
