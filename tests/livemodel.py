"""What events do to a book, a rule and a factor, by the tests' own reckoning, and events to try."""

from fractions import Fraction

from tests import plain
from tests.support import FOUR, ODD, ODD_VALUES, RING, STAR, WIDE, quotient
from tests.test_bookchecker import FAULTS
from tests.test_rules import NO_FOURS, OTHER

LONE_BOOK, IDLE_BOOK = (2, 1, ((1,),)), (2, 1, ())

# What is no number, and what is no ascending tuple of numbers.
NO_NUMBERS = (None, True, False, -1, "0", (0,), [0], ())
NO_LOTS = (None, True, 0, "", [], [0], (-1,), (1, 0), (0, 0), (True,), (0, True), ("0",), ((0,),), (None,), (0, 1, 1))

# What is no event by form.
NO_EVENTS = (
    *ODD_VALUES, (), "cut", ("cut",), ("close",), ("take",), ("give",), ("merge",), ("beside",), ("go", 0), ("undo",), ("Cut", (0,)),
    (None, 0), (True, 0), (("cut",), (0,)), (["cut"], (0,)), ["cut", (0,)], ["take", 0], ("begin", RING, ODD), ("give", 0), ("merge", 0),
    ("cut", (0,), ()), ("close", (0,), (1,)), ("take", 0, 1), ("give", 0, FOUR, FOUR), ("give", FOUR, 0), ("merge", 0, 1, 2),
    ("beside", RING), ("beside", RING, ODD, ODD), ("beside", ODD, RING), ("beside", RING, ODD[:2]), ("beside", RING, (*ODD, FOUR)),
    ("beside", RING, list(ODD)), ("beside", RING, None), ("beside", None, ODD), ("beside", STAR, (FOUR, FOUR, OTHER[:3])),
    ("cut", 0, 1), ("alike", 0, 1), ("in row", 0, 1),
    *[(word, bad) for word in ("cut", "close") for bad in NO_LOTS], *[("take", bad) for bad in NO_NUMBERS],
    *[("give", bad, FOUR) for bad in NO_NUMBERS], *[("give", 0, bad) for bad in NO_FOURS],
    ("give", 0, (*FOUR[:3], (2, 4))), ("give", 0, (*FOUR[:3], (True, 1))), ("give", 0, (*FOUR[:3], 1)),
    *[("merge", bad, 1) for bad in NO_NUMBERS], *[("merge", 0, bad) for bad in NO_NUMBERS],
    *[("beside", thing, ODD) for _, _, thing in FAULTS[::3]],
)


def has_places(size, event):
    """Whether all places of an event are places of so many."""
    if event[0] in ("cut", "close"):
        return all(place < size for place in event[1])
    if event[0] == "beside":
        return True
    return all(place < size for place in (event[1:2] if event[0] == "give" else event[1:]))


def reason(state, many, most, event):
    """Why an event by form is refused, there being so many; None if it is not."""
    book, rule, _ = state
    if many >= most:
        return "full"
    if not has_places(book[1], event):
        return "place"
    word, things = event[0], event[1:]
    if word in ("cut", "close"):
        return "none" if things == ((),) else None
    if word == "take":
        return "ordinary" if plain.kind(book, things[0]) == "ordinary" else None
    if word == "give":
        return "same" if rule[things[0]] == things[1] else None
    if word == "merge":
        if things[0] == things[1]:
            return "same"
        return None if plain.alike(book, *things) or plain.in_row(book, *things) else "unlike"
    if things[0][0] != book[0]:
        return "prime"
    return "many" if book[1] + things[0][1] > 8 else None


def beside(one, other):
    prime, size, rows = one
    return (prime, size + other[1], (*[(*row, *[0] * other[1]) for row in rows], *[(*[0] * size, *row) for row in other[2]]))


def after(state, event):
    """The triple (book, rule, factor) after an event that is not refused, the factor being a fraction."""
    book, rule, factor = state
    word, things = event[0], event[1:]
    if word == "cut":
        return plain.cut(book, things[0]), plain.without(rule, things[0]), factor
    if word == "close":
        return plain.closed(book, things[0]), plain.without(rule, things[0]), factor
    if word == "take":
        number, left, rest = plain.behind(book, rule, event)
        return left, rest, factor * number
    if word == "give":
        return book, (*rule[:things[0]], things[1], *rule[things[0] + 1:]), factor
    if word == "merge":
        way = "alike" if plain.alike(book, *things) else "in row"
        return (*plain.merged(book, rule, way, *things), factor)
    return beside(book, things[0]), rule + things[1], factor


def told(state):
    """A state with its factor as a quotient."""
    return (*state[:2], quotient(Fraction(state[2])))


def any_event(dice, size, prime):
    """An event by form for a book of so many places, also one that is refused."""
    place, other = dice.randrange(size + 1), dice.randrange(size + 1)
    lot = tuple(sorted(dice.sample(range(size + 1), dice.choice([0, 1, 1, 1, 2]) if size else 0)))
    four = dice.choice([FOUR, OTHER, ODD[2]])
    puts = [((prime, 1, ((1,),)), (FOUR,)), ((prime, 1, ()), (OTHER,)), ((prime, 2, ((1, 1),)), (FOUR, four)), ((prime, 0, ()), ()),
            (WIDE, (FOUR,) * 4), ((prime, 6, ()), (FOUR,) * 6)]
    return dice.choice([("cut", lot), ("close", lot), ("take", place), ("take", place), ("give", place, four), ("merge", place, other),
                        ("merge", place, other), ("merge", place, other), ("beside", *dice.choice(puts))])
