"""A book brought down, step by step."""

from cutorclose.kinds import is_below
from cutorclose.lots import kind_at
from cutorclose.merging import merged_alike, merged_in_row
from cutorclose.needs import need
from cutorclose.quotients import NOUGHT, ONE, times
from cutorclose.reckoning import steps_at
from cutorclose.rulekinds import need_rule, same_rule
from cutorclose.stepkinds import is_step
from cutorclose.twins import are_alike, are_in_row


def stands(book, step):
    """Whether any value is a step that stands in the book."""
    if not is_step(step) or not all([is_below(book[1], place) for place in step[1:]]):
        return False
    if step[0] == "take":
        return kind_at(book, step[1]) != "ordinary"
    one, other = step[1:]
    if one >= other:
        return False
    return are_alike(book, one, other) if step[0] == "alike" else are_in_row(book, one, other)


def after_step(book, rule, step):
    """The triple (factor, book, rule) behind a step that stands."""
    need_rule(book, rule)
    need(stands(book, step), "step")
    word, places = step[0], step[1:]
    if word == "take":
        # A place that is idle or alone has but one way.
        return steps_at(book, rule, places[0])[0]
    merged = merged_alike(book, rule, *places) if word == "alike" else merged_in_row(book, rule, *places)
    return (ONE, *merged)


def comes_down(book):
    """Whether some steps lead to a book without places."""
    # Which steps stand does not hang on the rule, so any one will do.
    four = (NOUGHT, NOUGHT, NOUGHT, NOUGHT)
    return worth_by_downs(book, same_rule(book[1], four)) is not None


def brought_down(book, rule):
    """A quadruple (steps, factor, book, rule): steps behind which none stands, and to what they lead."""
    need_rule(book, rule)
    steps, factor, left, rest = (), ONE, book, rule
    standing = steps_in(left)
    while len(standing) > 0:
        step = standing[0]
        number, left, rest = after_step(left, rest, step)
        steps, factor = (*steps, step), times(factor, number)
        standing = steps_in(left)
    return (steps, factor, left, rest)


def worth_by_downs(book, rule):
    """The factor of steps that lead to a book without places; None if the book does not come down."""
    factor, left = brought_down(book, rule)[1:3]
    return factor if left[1] == 0 else None


def steps_in(book):
    """The set of all steps that stand in the book."""
    places = range(book[1])
    pairs = [(one, other) for one in places for other in places if one < other]
    alike = [("alike", *pair) for pair in pairs]
    in_row = [("in row", *pair) for pair in pairs]
    taken = [("take", place) for place in places]
    return tuple([step for step in (*alike, *in_row, *taken) if stands(book, step)])
