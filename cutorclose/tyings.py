"""Ties: two quotients by which the alone and idle numbers hang on the closed and cut ones."""

from cutorclose.kinds import is_lot, is_quotient_pair
from cutorclose.needs import need
from cutorclose.partings import parts_of
from cutorclose.quotients import minus, plus, times
from cutorclose.rulekinds import need_any_rule, need_rule
from cutorclose.solving import values_in


def holds_at(rule, tie, lot):
    """Whether the tie holds at all places of the lot."""
    need_any_rule(rule)
    need(is_quotient_pair(tie), "tie")
    need(is_lot(len(rule), lot), "lot")
    return all([rule[place] == tied_four(rule[place][:2], tie) for place in lot])


def tie_of(rule, lot):
    """The pair of the only quotients that tie all places of the lot, "any" where each will do; or None."""
    need_any_rule(rule)
    need(is_lot(len(rule), lot), "lot")
    fours = [rule[place] for place in lot]
    u = values_in([(cut, minus(alone, closed)) for closed, cut, alone, idle in fours])
    v = values_in([(closed, minus(idle, cut)) for closed, cut, alone, idle in fours])
    if ("none",) in (u, v):
        return None
    return (only_value(u), only_value(v))


def ties_of(book, rule):
    """The tuple of what tie_of tells for each part of the book."""
    need_rule(book, rule)
    return tuple([tie_of(rule, part) for part in parts_of(book)])


def tied_four(pair, tie):
    """The four with these closed and cut numbers for which the tie holds."""
    closed, cut = pair
    u, v = tie
    return (closed, cut, plus(closed, times(u, cut)), plus(cut, times(v, closed)))


def only_value(values):
    """The quotient of ("one", quotient), "any" for ("all",)."""
    return "any" if values == ("all",) else values[1]
