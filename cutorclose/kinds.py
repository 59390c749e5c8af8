"""Whether any value is of a kind: integers, quotients, words, lots, orders, books."""

from math import gcd

PRIMES = (2, 3, 5, 7)


def is_integer(thing):
    """Whether any value is an integer; True and False are none."""
    return isinstance(thing, int) and not isinstance(thing, bool)


def is_number(thing):
    """Whether any value is an integer that is at least 0."""
    return is_integer(thing) and thing >= 0


def is_below(limit, thing):
    """Whether any value is a number below the limit, as digits and places are."""
    return is_number(thing) and thing < limit


def is_prime(thing):
    """Whether any value is one of the four primes."""
    return is_integer(thing) and thing in PRIMES


def is_tuple_of(many, thing):
    """Whether any value is a tuple of so many values."""
    return isinstance(thing, tuple) and len(thing) == many


def is_quotient(thing):
    """Whether any value is a quotient: a pair in lowest terms, its bottom at least 1."""
    if not is_tuple_of(2, thing):
        return False
    top, bottom = thing
    if not is_integer(top) or not is_integer(bottom):
        return False
    return bottom >= 1 and gcd(top, bottom) == 1


def is_quotient_pair(thing):
    """Whether any value is a pair of quotients, as ties are."""
    return is_tuple_of(2, thing) and is_quotient(thing[0]) and is_quotient(thing[1])


def is_word(prime, size, thing):
    """Whether any value is a word of this prime and size."""
    return is_tuple_of(size, thing) and all([is_below(prime, digit) for digit in thing])


def is_ascending(thing):
    """Whether any value is an ascending tuple of numbers, possibly ()."""
    if not isinstance(thing, tuple) or not all([is_number(place) for place in thing]):
        return False
    return all([place < behind for place, behind in zip(thing, thing[1:])])


def is_lot(size, thing):
    """Whether any value is a lot of so many places."""
    return is_ascending(thing) and (len(thing) == 0 or thing[-1] < size)


def is_order(size, thing):
    """Whether any value is an order of so many places."""
    if not is_tuple_of(size, thing):
        return False
    if not all([is_below(size, place) for place in thing]):
        return False
    return sorted(thing) == list(range(size))


def is_book(thing):
    """Whether any value is a book."""
    return book_fault(thing) is None


def lead_of(row):
    """The place of the first digit that is not 0; how many places there are if all are 0."""
    for place, digit in enumerate(row):
        if digit != 0:
            return place
    return len(row)


def book_fault(thing):
    """The first entry (word, at) of the list of lets_book that applies, or None for a book."""
    if not is_tuple_of(3, thing):
        return ("shape", -1)
    prime, size, rows = thing
    if not is_prime(prime):
        return ("prime", -1)
    if not is_number(size):
        return ("size", -1)
    if not isinstance(rows, tuple):
        return ("rows", -1)
    for k, row in enumerate(rows):
        word = row_fault(prime, size, rows[:k], row)
        if word is not None:
            return (word, k)
    return settled_fault(rows)


def row_fault(prime, size, ahead, row):
    """What is wrong with a row by itself and behind the row ahead of it, as a word, or None."""
    if not is_word(prime, size, row):
        return "row"
    lead = lead_of(row)
    if lead == size:
        return "nought"
    if row[lead] != 1 or (len(ahead) > 0 and lead <= lead_of(ahead[-1])):
        return "first"
    return None


def settled_fault(rows):
    """The first row that has not 0 where another one has its first 1, or None."""
    for k, row in enumerate(rows):
        lead = lead_of(row)
        for j, other in enumerate(rows):
            if j != k and other[lead] != 0:
                return ("settled", (k, j))
    return None
