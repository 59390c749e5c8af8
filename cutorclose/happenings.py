"""What an event by form makes of a book, a rule and a factor, and for which reason it cannot."""

from cutorclose.books import beside
from cutorclose.downs import after_step
from cutorclose.kinds import is_below, is_lot
from cutorclose.liveevents import is_event
from cutorclose.lots import kind_at
from cutorclose.merging import merged_alike, merged_in_row
from cutorclose.quotients import times
from cutorclose.rulekinds import rule_left, rule_with
from cutorclose.takes import closed_at, cut_at
from cutorclose.twins import are_alike, are_in_row

MOST_PLACES = 8


def states_by(states, most, events):
    """The pair of the states, with those that events lead to behind them, and the reason for which one is refused.

    A state is a triple (book, rule, factor); all but the first one of them stand for an event, of
    which there are at most so many. Without a refusal the reason is None.
    """
    for event in events:
        reason = reason_for(states, most, event)
        if reason is not None:
            return (states, reason)
        change = CHANGES[event[0]]
        states = (*states, change(states[-1], event))
    return (states, None)


def reason_for(states, most, event):
    """The first reason for which any value is refused behind these states, or None."""
    if not is_event(event):
        return "shape"
    if len(states) > most:
        return "full"
    book, rule = states[-1][:2]
    reason = REASONS[event[0]]
    return reason(book, rule, event)


def reason_of_lot(book, rule, event):
    """Why a lot cannot be cut or closed, or None."""
    if not is_lot(book[1], event[1]):
        return "place"
    return "none" if event[1] == () else None


def reason_of_take(book, rule, event):
    """Why a place cannot be taken, or None."""
    if not is_below(book[1], event[1]):
        return "place"
    return "ordinary" if kind_at(book, event[1]) == "ordinary" else None


def reason_of_give(book, rule, event):
    """Why a place cannot get a four, or None."""
    place, four = event[1:]
    if not is_below(book[1], place):
        return "place"
    return "same" if rule[place] == four else None


def reason_of_merge(book, rule, event):
    """Why two places cannot be made one, or None."""
    one, other = event[1:]
    if not is_below(book[1], one) or not is_below(book[1], other):
        return "place"
    if one == other:
        return "same"
    return None if are_alike(book, one, other) or are_in_row(book, one, other) else "unlike"


def reason_of_beside(book, rule, event):
    """Why a book cannot be put beside, or None."""
    other = event[1]
    if other[0] != book[0]:
        return "prime"
    return "many" if book[1] + other[1] > MOST_PLACES else None


def after_cut(state, event):
    """All after a lot is cut."""
    book, rule, factor = state
    return (cut_at(book, event[1]), rule_left(rule, event[1]), factor)


def after_close(state, event):
    """All after a lot is closed."""
    book, rule, factor = state
    return (closed_at(book, event[1]), rule_left(rule, event[1]), factor)


def after_take(state, event):
    """All after a place is taken, as by a step down."""
    book, rule, factor = state
    number, left, rest = after_step(book, rule, event)
    return (left, rest, times(factor, number))


def after_give(state, event):
    """All after a place has got a four."""
    book, rule, factor = state
    return (book, rule_with(rule, event[1], event[2]), factor)


def after_merge(state, event):
    """All after two places are made one."""
    book, rule, factor = state
    one, other = event[1:]
    if are_alike(book, one, other):
        left, rest = merged_alike(book, rule, one, other)
    else:
        left, rest = merged_in_row(book, rule, one, other)
    return (left, rest, factor)


def after_beside(state, event):
    """All after a book and its rule are put beside."""
    book, rule, factor = state
    return (beside(book, event[1]), (*rule, *event[2]), factor)


REASONS = {
    "cut": reason_of_lot,
    "close": reason_of_lot,
    "take": reason_of_take,
    "give": reason_of_give,
    "merge": reason_of_merge,
    "beside": reason_of_beside,
}

CHANGES = {
    "cut": after_cut,
    "close": after_close,
    "take": after_take,
    "give": after_give,
    "merge": after_merge,
    "beside": after_beside,
}
