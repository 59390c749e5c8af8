"""Worths part by part, by ties."""

from cutorclose.errors import Untied
from cutorclose.holdings import first_untied, tied_parts
from cutorclose.lots import places_of
from cutorclose.lotsums import lot_sum, pairs_in
from cutorclose.quotients import multiplied
from cutorclose.reckoning import worth_by
from cutorclose.rulekinds import need_rule, rule_left
from cutorclose.takes import cut_at, kept_by


def worth_by_parts(book, rule):
    """The product of what the parts come to; Untied for the first one that no tie holds together."""
    parts = parts_held(book, rule)
    return multiplied([worth_on(book, rule, lot, tie) for lot, tie in parts])


def parts_held(book, rule):
    """A tuple of pairs of each part and its tie, or None if it needs none; Untied for the first one that lacks it."""
    need_rule(book, rule)
    part = first_untied(book, rule)
    if part is not None:
        raise Untied(part)
    return tied_parts(book, rule)


def worth_on(book, rule, lot, tie):
    """What the book cut at all places but the lot comes to: the sum by the tie, or for None by an order."""
    others = kept_by(book[1], lot)
    left, rest = cut_at(book, others), rule_left(rule, others)
    if tie is None:
        return worth_by(left, rest, places_of(left))
    return lot_sum(left, pairs_in(rest), tie)
