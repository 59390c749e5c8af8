"""Two places that are alike, or in a row, made one."""

from cutorclose.brackets import crossed
from cutorclose.needs import need
from cutorclose.quotients import plus, times
from cutorclose.rulekinds import need_rule, rule_left, rule_with
from cutorclose.takes import closed_at, cut_at
from cutorclose.twins import are_alike, are_in_row


def merged_alike(book, rule, one, other):
    """The pair of the book and the rule in which the lesser of two alike places stands for both."""
    need_rule(book, rule)
    # What are not two different places is refused by the question itself.
    need(are_alike(book, one, other), "other")
    four = alike_four(rule[one], rule[other])
    return (cut_at(book, (max(one, other),)), merged_rule(rule, one, other, four))


def merged_in_row(book, rule, one, other):
    """The pair of the book and the rule in which the lesser of two places in a row stands for both."""
    need_rule(book, rule)
    need(are_in_row(book, one, other), "other")
    four = row_four(rule[one], rule[other])
    return (closed_at(book, (max(one, other),)), merged_rule(rule, one, other, four))


def merged_rule(rule, one, other, four):
    """The rule with the four at the lesser place and without the greater one."""
    return rule_left(rule_with(rule, min(one, other), four), (max(one, other),))


def alike_four(one, other):
    """The four of the place that stands for two alike ones: closed at the one, the other is idle."""
    closed = crossed(one, other, other[0])
    alone = crossed(one, other, other[2])
    return (closed, times(one[1], other[1]), alone, times(one[3], other[3]))


def row_four(one, other):
    """The four of the place that stands for two in a row: cut at the one, the other is alone."""
    cut = plus(times(one[1], other[2]), times(one[0], other[1]))
    idle = crossed(one, other, other[2])
    return (times(one[0], other[0]), cut, times(one[2], other[2]), idle)
