"""How each part of a book holds together: by a tie, or without one."""

from cutorclose.brackets import gap_between
from cutorclose.partings import parts_of
from cutorclose.quotients import NOUGHT
from cutorclose.tyings import tie_of


def first_untied(book, rule):
    """The first part that holds together neither by a tie nor without one, or None."""
    for part in parts_of(book):
        if not needs_no_tie(rule, part) and tie_for(rule, part) is None:
            return part
    return None


def tied_parts(book, rule):
    """A tuple of pairs of each part and a tie that holds at all its places, or None if it needs none."""
    return tuple([(part, tie_for(rule, part)) for part in parts_of(book)])


def tie_for(rule, part):
    """A tie that holds at all places of the part; None if none does, or there is but one place."""
    return None if len(part) == 1 else whole_tie(rule, part)


def whole_tie(rule, lot):
    """A tie that holds at all places of the lot, nought where each quotient will do; None if none does."""
    tie = tie_of(rule, lot)
    if tie is None:
        return None
    return tuple([NOUGHT if each == "any" else each for each in tie])


def needs_no_tie(rule, lot):
    """Whether the lot has one place, or two whose pair gap is nought."""
    if len(lot) == 2:
        return gap_between(rule[lot[0]], rule[lot[1]]) == NOUGHT
    return len(lot) == 1
