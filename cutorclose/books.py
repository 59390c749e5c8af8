"""Books by their words: spans, checks, books side by side."""

from cutorclose.kinds import is_number, is_prime, is_word, lead_of
from cutorclose.needs import need
from cutorclose.quotients import power
from cutorclose.settling import less, rest_of, settled


def span_of(prime, size, words):
    """The book of all sums of multiples of the words."""
    need(is_prime(prime), "prime")
    need(is_number(size), "size")
    need(isinstance(words, tuple) and all([is_word(prime, size, word) for word in words]), "words")
    return (prime, size, settled(prime, words))


def has_word(book, word):
    """Whether the word is one of the book's."""
    prime, size, rows = book
    need(is_word(prime, size, word), "word")
    return lead_of(rest_of(prime, rows, word)) == size


def words_of(book):
    """A generator of all words of the book, ascending."""
    prime, size, rows = book
    # A word has at the lead of a row just how many of the row it takes, so that the words ascend
    # as these digits do, read as one number.
    for number in range(power(prime, len(rows))):
        yield sum_by(prime, size, rows, number)


def sum_by(prime, size, rows, number):
    """The sum of the rows, taken by the digits of the number, the last one for the last row."""
    word = tuple([0 for _ in range(size)])
    rest = number
    for row in reversed(list(rows)):
        word = less(prime, word, row, -(rest % prime))
        rest = rest // prime
    return word


def checks_of(book):
    """The book of all words whose sum of products with each word of the book is 0."""
    prime, size, rows = book
    leads = [lead_of(row) for row in rows]
    words = [check_at(book, leads, place) for place in range(size) if place not in leads]
    return (prime, size, settled(prime, words))


def check_at(book, leads, place):
    """The only check with 1 at the place, which is no lead, and 0 at all others that are none."""
    prime, size, rows = book
    word = [0 for _ in range(size)]
    word[place] = 1
    for lead, row in zip(leads, rows):
        word[lead] = -row[place] % prime
    return tuple(word)


def beside(one, other):
    """The book of all words of one, each with each word of other put behind it."""
    need(one[0] == other[0], "other")
    prime, size, rows = one
    front = tuple([0 for _ in range(size)])
    back = tuple([0 for _ in range(other[1])])
    ahead = [(*row, *back) for row in rows]
    behind = [(*front, *row) for row in other[2]]
    return (prime, size + other[1], (*ahead, *behind))
