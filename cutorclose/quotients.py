"""Quotients: pairs (top, bottom) in lowest terms, reckoned with as the numbers they stand for."""

from math import gcd

from cutorclose.kinds import is_number, is_quotient
from cutorclose.needs import need


def plus(one, other):
    """The sum."""
    need_both(one, other)
    return lowest(one[0] * other[1] + other[0] * one[1], one[1] * other[1])


def minus(one, other):
    """One less other."""
    need_both(one, other)
    return lowest(one[0] * other[1] - other[0] * one[1], one[1] * other[1])


def times(one, other):
    """The product."""
    need_both(one, other)
    return lowest(one[0] * other[0], one[1] * other[1])


def over(one, other):
    """One divided by other, which is not nought."""
    need_both(one, other)
    need(other[0] != 0, "other")
    # The bottom has to stay above 0, so the sign of a divisor below 0 goes to the top.
    if other[0] < 0:
        return lowest(-one[0] * other[1], -one[1] * other[0])
    return lowest(one[0] * other[1], one[1] * other[0])


def raised(one, many):
    """One to the power many; to the power 0 it is 1, also nought."""
    need(is_quotient(one), "one")
    need(is_number(many), "many")
    return (power(one[0], many), power(one[1], many))


def need_both(one, other):
    """Refuse what is no quotient."""
    need(is_quotient(one), "one")
    need(is_quotient(other), "other")


def lowest(top, bottom):
    """The quotient that stands for top / bottom, bottom being at least 1."""
    common = gcd(top, bottom)
    return (top // common, bottom // common)


def power(base, many):
    """An integer to the power of a number."""
    result = 1
    # The square is taken for each binary figure of many, so that a great power takes few steps.
    for figure in range(many.bit_length() - 1, -1, -1):
        result = result * result
        if (many >> figure) & 1 == 1:
            result = result * base
    return result
