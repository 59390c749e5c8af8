"""Pair gaps and brackets: how the fours of two places differ."""

from cutorclose.needs import need_two_places
from cutorclose.quotients import minus, plus, times
from cutorclose.rulekinds import need_any_rule


def pair_gap(rule, one, other):
    """The pair gap of both places, 0 if their fours agree as a pair."""
    need_rule_and_two(rule, one, other)
    return gap_between(rule[one], rule[other])


def bracket(rule, one, other):
    """The bracket of both places."""
    need_rule_and_two(rule, one, other)
    return bracket_between(rule[one], rule[other])


def need_rule_and_two(rule, one, other):
    """Refuse what is no rule, or not two different places of it."""
    need_any_rule(rule)
    need_two_places(len(rule), one, other, "one")


def gap_between(one, other):
    """The pair gap of two fours: what the pair comes to by either order, one less the other."""
    return minus(crossed(one, other, other[2]), crossed(other, one, one[2]))


def bracket_between(one, other):
    """The bracket of two fours: as the pair gap, the closed numbers standing in for those alone."""
    return minus(crossed(one, other, other[0]), crossed(other, one, one[0]))


def crossed(one, other, number):
    """The closed number of one times the idle one of other, and its cut number times this number, added."""
    return plus(times(one[0], other[3]), times(one[1], number))
