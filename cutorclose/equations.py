"""Equations: what a rule has to hold at the pairs, rings and stars that can be left of a book."""

from cutorclose.brackets import bracket_between, gap_between
from cutorclose.kinds import is_below
from cutorclose.leavings import pairs_of, rings_of, stars_of
from cutorclose.needs import need
from cutorclose.quotients import NOUGHT, times
from cutorclose.rulekinds import need_any_rule, need_rule

WORDS = ("pair", "ring", "star")


def equations_of(book):
    """The set of the equations of all that can be left of the book as a pair, a ring or a star."""
    pairs = [("pair", *lot) for lot in pairs_of(book)]
    rings = [("ring", *places) for lot in rings_of(book) for places in with_each_last(lot)]
    stars = [("star", *places) for lot in stars_of(book) for places in with_each_last(lot)]
    return tuple(sorted([*pairs, *rings, *stars]))


def equation_gap(rule, equation):
    """The gap of an equation of the rule's places."""
    need_any_rule(rule)
    need(is_equation(len(rule), equation), "equation")
    return gap_in(rule, equation)


def failing(book, rule):
    """The set of the equations of the book whose gap is not nought."""
    need_rule(book, rule)
    return tuple([equation for equation in equations_of(book) if gap_in(rule, equation) != NOUGHT])


def with_each_last(lot):
    """A list of the triples of the lot's three places with each of them last, the others ascending."""
    first, second, third = lot
    return [(first, second, third), (first, third, second), (second, third, first)]


def is_equation(size, thing):
    """Whether any value is an equation of so many places."""
    if not isinstance(thing, tuple) or len(thing) == 0 or thing[0] not in WORDS:
        return False
    places = thing[1:]
    many = 2 if thing[0] == "pair" else 3
    if len(places) != many or not all([is_below(size, place) for place in places]):
        return False
    return places[0] < places[1] and len(set(places)) == many


def gap_in(rule, equation):
    """The gap of the equation; both are taken as such."""
    word = equation[0]
    one, other = rule[equation[1]], rule[equation[2]]
    if word == "pair":
        return gap_between(one, other)
    third = rule[equation[3]]
    number = third[2] if word == "ring" else third[3]
    return times(bracket_between(one, other), number)
