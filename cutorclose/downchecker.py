"""The checker of papers of steps."""

from cutorclose.downs import after_step, stands, steps_in
from cutorclose.errors import InvalidPaper
from cutorclose.kinds import is_quotient
from cutorclose.quotients import ONE, times
from cutorclose.rulekinds import need_rule
from cutorclose.stepkinds import is_step


def lets_down(book, rule, thing):
    """The worth of a paper of steps that lead down, None for one that is held; InvalidPaper for any other value."""
    need_rule(book, rule)
    if not has_shape(thing):
        raise InvalidPaper("shape", -1)
    factor, left = gone(book, rule, thing[1])
    if thing[0] == "held":
        check_held(left)
        return None
    check_down(left, factor, thing[2])
    return factor


def has_shape(thing):
    """Whether any value is a triple of "down", a tuple and a quotient, or a pair of "held" and a tuple."""
    if not isinstance(thing, tuple) or len(thing) < 2 or not isinstance(thing[1], tuple):
        return False
    if thing[0] == "down":
        return len(thing) == 3 and is_quotient(thing[2])
    return thing[0] == "held" and len(thing) == 2


def gone(book, rule, steps):
    """The pair of the product of the factors of the steps and the book behind them; InvalidPaper unless each stands."""
    factor, left, rest = ONE, book, rule
    for k, step in enumerate(steps):
        if not is_step(step):
            raise InvalidPaper("step", k)
        if not stands(left, step):
            raise InvalidPaper("stands", k)
        number, left, rest = after_step(left, rest, step)
        factor = times(factor, number)
    return (factor, left)


def check_held(left):
    """InvalidPaper unless places are left, and no step stands."""
    if left[1] == 0:
        raise InvalidPaper("none", -1)
    if len(steps_in(left)) > 0:
        raise InvalidPaper("stands", -1)


def check_down(left, factor, worth):
    """InvalidPaper unless no places are left, and the worth is the product of the factors."""
    if left[1] > 0:
        raise InvalidPaper("left", -1)
    if worth != factor:
        raise InvalidPaper("worth", -1)
