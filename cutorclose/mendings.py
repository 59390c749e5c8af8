"""Rules mended in one number."""

from cutorclose.equations import equations_of, gap_in
from cutorclose.kinds import is_below
from cutorclose.needs import need
from cutorclose.quotients import NOUGHT, ONE, minus
from cutorclose.rulekinds import need_rule, rule_with
from cutorclose.solving import values_in


def values_for(book, rule, place, index):
    """The values of one number with which the rule fits: ("all",), ("one", quotient) or ("none",)."""
    need_spot(book, rule, place, index)
    return values_by(equations_of(book), rule, place, index)


def mended(book, rule, place, index):
    """The rule itself if it fits, otherwise with the only value that makes it fit; None if there is none."""
    need_spot(book, rule, place, index)
    values = values_by(equations_of(book), rule, place, index)
    if values[0] == "one":
        return with_number(rule, place, index, values[1])
    return rule if values[0] == "all" else None


def mending_spots(book, rule):
    """The set of the pairs (place, index) of the numbers for which some value makes the rule fit."""
    need_rule(book, rule)
    equations = equations_of(book)
    spots = [(place, index) for place in range(book[1]) for index in range(4)]
    return tuple([spot for spot in spots if values_by(equations, rule, spot[0], spot[1]) != ("none",)])


def need_spot(book, rule, place, index):
    """Refuse what is no rule of the book, no place of it, or no index of a four."""
    need_rule(book, rule)
    need(is_below(book[1], place), "place")
    need(is_below(4, index), "index")


def values_by(equations, rule, place, index):
    """The values of the number with which all equations hold."""
    low = with_number(rule, place, index, NOUGHT)
    high = with_number(rule, place, index, ONE)
    return values_in([line_of(gap_in(low, equation), gap_in(high, equation)) for equation in equations])


def line_of(low, high):
    """The pair (slope, height) of an equation whose gap is low where the number is 0, high where it is 1.

    Its two or three places are different ones, so that the number comes into each product but once:
    the gap is low and slope times the number.
    """
    return (minus(high, low), minus(NOUGHT, low))


def with_number(rule, place, index, number):
    """The rule with this number at the index of the place's four."""
    four = rule[place]
    return rule_with(rule, place, (*four[:index], number, *four[index + 1:]))
