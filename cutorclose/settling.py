"""Words of a prime added and multiplied, and rows brought into settled form."""

from cutorclose.kinds import lead_of


def picked(word, places):
    """The digits of the word at these places, in their order."""
    return tuple([word[place] for place in places])


def inverse(prime, digit):
    """The digit whose product with this one, which is not 0, is 1."""
    return [other for other in range(1, prime) if digit * other % prime == 1][0]


def scaled(prime, word, digit):
    """The word multiplied by the digit."""
    return tuple([digit * each % prime for each in word])


def less(prime, word, row, digit):
    """The word less the row multiplied by the digit."""
    if digit == 0:
        return word
    return tuple([(mine - digit * its) % prime for mine, its in zip(word, row)])


def rest_of(prime, rows, word):
    """What stays of the word when settled rows have made it 0 at all their leads."""
    rest = word
    for row in rows:
        rest = less(prime, rest, row, rest[lead_of(row)])
    return rest


def joined(prime, rows, word):
    """A list of the settled rows of all sums of multiples of settled rows and a word."""
    rest = rest_of(prime, rows, word)
    lead = lead_of(rest)
    if lead == len(rest):
        return list(rows)
    row = scaled(prime, rest, inverse(prime, rest[lead]))
    cleared = [less(prime, old, row, old[lead]) for old in rows]
    # At the lead of a settled row all others have 0, so the row with the least lead is the greatest.
    return sorted([*cleared, row], reverse=True)


def settled(prime, words):
    """The rows, in settled form, of the book of all sums of multiples of the words."""
    rows = []
    for word in words:
        rows = joined(prime, rows, word)
    return tuple(rows)
