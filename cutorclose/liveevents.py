"""Events of a live book by their form, and logs of them."""

from cutorclose.kinds import is_ascending, is_book, is_number, is_tuple_of
from cutorclose.rulekinds import is_four, is_rule


def is_event(thing):
    """Whether any value is an event by form."""
    if not isinstance(thing, tuple) or len(thing) == 0:
        return False
    word, things = thing[0], thing[1:]
    if word in ("cut", "close"):
        return len(things) == 1 and is_ascending(things[0])
    if word == "take":
        return len(things) == 1 and is_number(things[0])
    if word == "merge":
        return len(things) == 2 and is_number(things[0]) and is_number(things[1])
    if word == "give":
        return len(things) == 2 and is_number(things[0]) and is_four(things[1])
    return word == "beside" and is_book_and_rule(things)


def is_log(thing):
    """Whether any value is a log: its beginning, and events by form behind it."""
    if not isinstance(thing, tuple) or len(thing) == 0 or not is_tuple_of(3, thing[0]):
        return False
    if thing[0][0] != "begin" or not is_book_and_rule(thing[0][1:]):
        return False
    return all([is_event(event) for event in thing[1:]])


def is_book_and_rule(things):
    """Whether the values are a book and a rule of its size."""
    return len(things) == 2 and is_book(things[0]) and is_rule(things[0][1], things[1])
