"""The checker of rules."""

from cutorclose.errors import InvalidPaper
from cutorclose.kinds import is_number, is_quotient, is_tuple_of
from cutorclose.needs import need


def lets_rule(size, thing):
    """The size of a rule of this size; InvalidPaper for any other value."""
    need(is_number(size), "size")
    if not isinstance(thing, tuple):
        raise InvalidPaper("shape", -1)
    if len(thing) != size:
        raise InvalidPaper("many", -1)
    for k, four in enumerate(thing):
        check_four(k, four)
    return size


def check_four(k, four):
    """InvalidPaper unless the element k of a rule is a quadruple of quotients."""
    if not is_tuple_of(4, four):
        raise InvalidPaper("four", k)
    for j, number in enumerate(four):
        if not is_quotient(number):
            raise InvalidPaper("number", (k, j))
