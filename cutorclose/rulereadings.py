"""Rules read from lines."""

from cutorclose.bookreadings import need_end, need_word, writes_number
from cutorclose.errors import InvalidText
from cutorclose.kinds import is_quotient
from cutorclose.needs import need


def read_rule(text):
    """The rule whose line the string is; InvalidText with the field of the first fault otherwise."""
    need(isinstance(text, str), "text")
    words = text.split(" ")
    need_word(words, 0, "rule")
    numbers = quotients_at(words, 1, len(words))
    if len(numbers) % 4 != 0:
        raise InvalidText(0, len(words))
    return fours_of(numbers)


def rule_at(words, start, size):
    """The rule of this size whose words begin at this field and end the line."""
    need_word(words, start, "rule")
    end = start + 1 + 4 * size
    numbers = quotients_at(words, start + 1, end)
    need_end(words, end)
    return fours_of(numbers)


def fours_of(numbers):
    """The rule of a list of numbers, four for each place."""
    return tuple([tuple(numbers[k:k + 4]) for k in range(0, len(numbers), 4)])


def quotients_at(words, start, end):
    """A list of the quotients that the words from the field start to that ahead of end write."""
    numbers = []
    # Where words lack, the first one that does ends this, however far away the end is.
    for field in range(start, end):
        numbers.append(quotient_at(words, field))
    return numbers


def quotient_at(words, field):
    """The quotient that the word at this field writes."""
    if field >= len(words):
        raise InvalidText(0, field)
    top, slash, bottom = words[field].partition("/")
    if not writes_integer(top) or (slash != "" and not writes_number(bottom)):
        raise InvalidText(0, field)
    if slash == "":
        return (int(top), 1)
    quotient = (int(top), int(bottom))
    # A bottom of 1 is not written.
    if quotient[1] == 1 or not is_quotient(quotient):
        raise InvalidText(0, field)
    return quotient


def writes_integer(word):
    """Whether the word is a number, or one above 0 with - ahead."""
    if word.startswith("-"):
        return word != "-0" and writes_number(word[1:])
    return writes_number(word)
