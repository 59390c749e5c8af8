"""Books read from lines."""

from cutorclose.errors import InvalidText
from cutorclose.kinds import is_below, is_book, is_prime
from cutorclose.needs import need

MOST_DIGITS = 60


def read_book(text):
    """The book whose line the string is; InvalidText with the field of the first fault otherwise."""
    need(isinstance(text, str), "text")
    words = text.split(" ")
    prime, size = read_head(words)
    rows = []
    field = 3
    while field < len(words):
        row = read_row(words, field, prime, size)
        # All rows ahead are settled already, so a fault of the whole is one of this row.
        if not is_book((prime, size, (*rows, row))):
            raise InvalidText(0, field)
        rows.append(row)
        field = field + 1 + size
    return (prime, size, tuple(rows))


def read_head(words):
    """The pair of the prime and the size, behind the word book."""
    if words[0] != "book":
        raise InvalidText(0, 0)
    prime = number_at(words, 1)
    if not is_prime(prime):
        raise InvalidText(0, 1)
    return (prime, number_at(words, 2))


def read_row(words, field, prime, size):
    """The row whose / stands at the field."""
    if words[field] != "/":
        raise InvalidText(0, field)
    digits = []
    # A row that is not whole ends at the first word that lacks, however great the size is.
    for at in range(field + 1, field + 1 + size):
        digit = number_at(words, at)
        if not is_below(prime, digit):
            raise InvalidText(0, at)
        digits.append(digit)
    return tuple(digits)


def number_at(words, field):
    """The number that the word with this index writes."""
    if field >= len(words) or not writes_number(words[field]):
        raise InvalidText(0, field)
    return int(words[field])


def writes_number(word):
    """Whether the word is a number of at most sixty digits, without a leading zero but 0 itself."""
    if not word.isascii() or not word.isdigit() or len(word) > MOST_DIGITS:
        return False
    return word == "0" or not word.startswith("0")
