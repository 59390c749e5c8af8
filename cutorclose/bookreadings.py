"""Books read from lines."""

from cutorclose.errors import InvalidText
from cutorclose.kinds import is_below, is_book, is_prime
from cutorclose.needs import need

MOST_DIGITS = 60


def read_book(text):
    """The book whose line the string is; InvalidText with the field of the first fault otherwise."""
    need(isinstance(text, str), "text")
    words = text.split(" ")
    book, field = book_at(words, 0)
    need_end(words, field)
    return book


def book_at(words, start):
    """The pair of the book whose words begin at this field, and the field behind them: the end, or a word rule."""
    prime, size = head_at(words, start)
    rows = []
    field = start + 3
    while field < len(words) and words[field] != "rule":
        row = row_at(words, field, prime, size)
        # All rows ahead are settled already, so a fault of the whole is one of this row.
        if not is_book((prime, size, (*rows, row))):
            raise InvalidText(0, field)
        rows.append(row)
        field = field + 1 + size
    return ((prime, size, tuple(rows)), field)


def head_at(words, start):
    """The pair of the prime and the size, behind the word book at this field."""
    need_word(words, start, "book")
    prime = number_at(words, start + 1)
    if not is_prime(prime):
        raise InvalidText(0, start + 1)
    return (prime, number_at(words, start + 2))


def row_at(words, field, prime, size):
    """The row whose / stands at this field."""
    need_word(words, field, "/")
    digits = []
    # A row that is not whole ends at the first word that lacks, however great the size is.
    for at in range(field + 1, field + 1 + size):
        digit = number_at(words, at)
        if not is_below(prime, digit):
            raise InvalidText(0, at)
        digits.append(digit)
    return tuple(digits)


def number_at(words, field):
    """The number that the word at this field writes."""
    if field >= len(words) or not writes_number(words[field]):
        raise InvalidText(0, field)
    return int(words[field])


def need_word(words, field, word):
    """InvalidText unless the word stands at this field."""
    if field >= len(words) or words[field] != word:
        raise InvalidText(0, field)


def need_end(words, field):
    """InvalidText unless the words end ahead of this field."""
    if len(words) > field:
        raise InvalidText(0, field)


def writes_number(word):
    """Whether the word is a number of at most sixty digits, without a leading zero but 0 itself."""
    if not word.isascii() or not word.isdigit() or len(word) > MOST_DIGITS:
        return False
    return word == "0" or not word.startswith("0")
