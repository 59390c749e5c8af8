"""Equations in one unknown quotient."""

from cutorclose.quotients import NOUGHT, over


def values_in(lines):
    """What the unknown is if, for each pair (slope, height), slope times it is height.

    ("all",), ("one", quotient) or ("none",).
    """
    told = ("all",)
    for slope, height in lines:
        told = in_both(told, values_on(slope, height))
    return told


def values_on(slope, height):
    """What the unknown is if slope times it is height."""
    if slope != NOUGHT:
        return ("one", over(height, slope))
    return ("all",) if height == NOUGHT else ("none",)


def in_both(one, other):
    """What is told by one as well as by other."""
    if one == ("all",) or one == other:
        return other
    return one if other == ("all",) else ("none",)
