"""Steps: a place taken, or two made one."""

from cutorclose.kinds import is_number

WORDS = ("alike", "in row", "take")


def is_step(thing):
    """Whether any value is a step by its form, wherever it stands."""
    if not isinstance(thing, tuple) or len(thing) == 0 or thing[0] not in WORDS:
        return False
    places = thing[1:]
    many = 1 if thing[0] == "take" else 2
    return len(places) == many and all([is_number(place) for place in places])
