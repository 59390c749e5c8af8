"""Rules: for each place a four, the quadruple of its closed, cut, alone and idle numbers."""

from cutorclose.kinds import is_number, is_quotient, is_tuple_of
from cutorclose.needs import need
from cutorclose.takes import kept_by


def is_rule(size, thing):
    """Whether any value is a rule of this size."""
    return is_tuple_of(size, thing) and all([is_four(four) for four in thing])


def rule_left(rule, lot):
    """The rule without the places of the lot."""
    need_any_rule(rule)
    return tuple([rule[place] for place in kept_by(len(rule), lot)])


def rule_of_checks(rule):
    """The rule with each closed number exchanged with the cut one, each alone one with the idle one."""
    need_any_rule(rule)
    return tuple([(cut, closed, idle, alone) for closed, cut, alone, idle in rule])


def same_rule(size, four):
    """The rule of so many places with the four at each."""
    need(is_number(size), "size")
    need(is_four(four), "four")
    return tuple([four for _ in range(size)])


def is_four(thing):
    """Whether any value is a quadruple of quotients."""
    return is_tuple_of(4, thing) and all([is_quotient(number) for number in thing])


def rule_with(rule, place, four):
    """The rule with this four at the place."""
    return (*rule[:place], four, *rule[place + 1:])


def need_rule(book, rule):
    """Refuse what is no rule of the book's size."""
    need(is_rule(book[1], rule), "rule")


def need_any_rule(rule):
    """Refuse what is no rule, of whatever size."""
    need(isinstance(rule, tuple) and is_rule(len(rule), rule), "rule")
