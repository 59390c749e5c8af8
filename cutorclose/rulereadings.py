"""Rules read from lines."""

from cutorclose.bookreadings import writes_number
from cutorclose.errors import InvalidText
from cutorclose.kinds import is_quotient
from cutorclose.needs import need


def read_rule(text):
    """The rule whose line the string is; InvalidText with the field of the first fault otherwise."""
    need(isinstance(text, str), "text")
    words = text.split(" ")
    if words[0] != "rule":
        raise InvalidText(0, 0)
    numbers = [quotient_at(words, field) for field in range(1, len(words))]
    if len(numbers) % 4 != 0:
        raise InvalidText(0, len(words))
    return tuple([tuple(numbers[k:k + 4]) for k in range(0, len(numbers), 4)])


def quotient_at(words, field):
    """The quotient that the word with this index writes."""
    top, slash, bottom = words[field].partition("/")
    if not writes_integer(top) or (slash != "" and not writes_number(bottom)):
        raise InvalidText(0, field)
    if slash == "":
        return (int(top), 1)
    quotient = (int(top), int(bottom))
    # A bottom of 1 is not written.
    if quotient[1] == 1 or not is_quotient(quotient):
        raise InvalidText(0, field)
    return quotient


def writes_integer(word):
    """Whether the word is a number, or one above 0 with - ahead."""
    if word.startswith("-"):
        return word != "-0" and writes_number(word[1:])
    return writes_number(word)
