"""Quotients: pairs (top, bottom) in lowest terms, reckoned with as the numbers they stand for."""

from math import gcd, lcm

from cutorclose.kinds import is_number, is_quotient
from cutorclose.needs import need

NOUGHT = (0, 1)
ONE = (1, 1)


def plus(one, other):
    """The sum."""
    need_both(one, other)
    return lowest(one[0] * other[1] + other[0] * one[1], one[1] * other[1])


def minus(one, other):
    """One less other."""
    need_both(one, other)
    return lowest(one[0] * other[1] - other[0] * one[1], one[1] * other[1])


def times(one, other):
    """The product."""
    need_both(one, other)
    return lowest(one[0] * other[0], one[1] * other[1])


def over(one, other):
    """One divided by other, which is not nought."""
    need_both(one, other)
    need(other[0] != 0, "other")
    # The bottom has to stay above 0, so the sign of a divisor below 0 goes to the top.
    if other[0] < 0:
        return lowest(-one[0] * other[1], -one[1] * other[0])
    return lowest(one[0] * other[1], one[1] * other[0])


def raised(one, many):
    """One to the power many; to the power 0 it is 1, also nought."""
    need(is_quotient(one), "one")
    need(is_number(many), "many")
    return (power(one[0], many), power(one[1], many))


def summed(ones):
    """The sum of all quotients of a list."""
    total = NOUGHT
    for one in ones:
        total = plus(total, one)
    return total


def multiplied(ones):
    """The product of all quotients of a list."""
    result = ONE
    for one in ones:
        result = times(result, one)
    return result


def ascending(ones):
    """A tuple of the quotients of a list, ascending as they are compared, without duplicates."""
    common = 1
    for one in ones:
        common = lcm(common, one[1])
    # With one bottom for all, they are compared as their tops.
    tops = [top * (common // bottom) for top, bottom in ones]
    return tuple([lowest(top, common) for top in sorted(set(tops))])


def need_both(one, other):
    """Refuse what is no quotient."""
    need(is_quotient(one), "one")
    need(is_quotient(other), "other")


def lowest(top, bottom):
    """The quotient that stands for top / bottom, bottom being at least 1."""
    common = gcd(top, bottom)
    return (top // common, bottom // common)


def power(base, many):
    """An integer to the power of a number."""
    result = 1
    # The square is taken for each binary figure of many, so that a great power takes few steps.
    for figure in range(many.bit_length() - 1, -1, -1):
        result = result * result
        if (many >> figure) & 1 == 1:
            result = result * base
    return result
