"""Events and logs read from lines."""

from cutorclose.bookreadings import book_at, need_end, number_at, read_book
from cutorclose.errors import InvalidText
from cutorclose.needs import need
from cutorclose.rulereadings import quotients_at, rule_at


def read_event(text):
    """The event that the string writes; InvalidText with the field of the first fault otherwise."""
    need(isinstance(text, str), "text")
    words = text.split(" ")
    if words[0] not in READERS:
        raise InvalidText(0, 0)
    reader = READERS[words[0]]
    things = reader(words)
    return (words[0], *things)


def read_log(lines):
    """The log that the strings of a list write; InvalidText with line and field of the first fault otherwise."""
    need(isinstance(lines, list) and all([is_line(line) for line in lines]), "lines")
    if len(lines) == 0:
        raise InvalidText(0, 0)
    book = read_book(lines[0])
    if len(lines) == 1:
        raise InvalidText(1, 0)
    rule = rule_on(lines, book[1])
    events = [event_on(lines, line) for line in range(2, len(lines))]
    return (("begin", book, rule), *events)


def is_line(thing):
    """Whether any value is a string without newlines."""
    return isinstance(thing, str) and "\n" not in thing


def rule_on(lines, size):
    """The rule of this size that the second line writes."""
    try:
        return rule_at(lines[1].split(" "), 0, size)
    except InvalidText as fault:
        raise InvalidText(1, fault.field) from None


def event_on(lines, line):
    """The event that the line with this index writes."""
    try:
        return read_event(lines[line])
    except InvalidText as fault:
        raise InvalidText(line, fault.field) from None


def read_begin(text):
    """The pair of the book and the rule of its size that a string writes behind its first word."""
    return book_and_rule_at(text.split(" "), 1)


def book_and_rule_at(words, start):
    """The pair of the book and the rule of its size whose words begin at this field and end the line."""
    book, field = book_at(words, start)
    return (book, rule_at(words, field, book[1]))


def lot_behind(words):
    """The lot behind the first word, alone in a tuple."""
    places = []
    for field in range(1, len(words)):
        place = number_at(words, field)
        if len(places) > 0 and place <= places[-1]:
            raise InvalidText(0, field)
        places.append(place)
    return (tuple(places),)


def place_behind(words):
    """The place behind the first word, alone in a tuple."""
    place = number_at(words, 1)
    need_end(words, 2)
    return (place,)


def two_places_behind(words):
    """The two places behind the first word."""
    one, other = number_at(words, 1), number_at(words, 2)
    need_end(words, 3)
    return (one, other)


def place_and_four_behind(words):
    """The place and the four behind the first word."""
    place = number_at(words, 1)
    four = quotients_at(words, 2, 6)
    need_end(words, 6)
    return (place, tuple(four))


def book_and_rule_behind(words):
    """The book and the rule behind the first word."""
    return book_and_rule_at(words, 1)


READERS = {
    "cut": lot_behind,
    "close": lot_behind,
    "take": place_behind,
    "give": place_and_four_behind,
    "merge": two_places_behind,
    "beside": book_and_rule_behind,
}
