"""Words of a book counted by letters: what a word gives at each place for 0, and for any other digit."""

from cutorclose.books import words_of
from cutorclose.kinds import is_number, is_prime
from cutorclose.lotsums import is_pairs, lot_sum, pairs_in, tied_rule
from cutorclose.needs import need
from cutorclose.quotients import ONE, minus, multiplied, plus, power, summed, times


def words_sum(book, letters):
    """The sum over all words of the product of what the word gives at all places."""
    need(is_pairs(book[1], letters), "letters")
    return summed([given_by(word, letters) for word in words_of(book)])


def tuples_sum(book, letters, many):
    """The sum over all tuples of so many words: at each place a where all have 0, b where not, all multiplied."""
    need(is_pairs(book[1], letters), "letters")
    # All tuples are too many to go through them, but there is a sum over all lots that is the same.
    rule = letters_rule(book[0], letters, many)
    return lot_sum(book, pairs_in(rule), letters_tie(book[0], many))


def letters_rule(prime, letters, many):
    """The rule whose worth, of whatever book of this prime, is tuples_sum."""
    need(is_prime(prime), "prime")
    need_any_letters(letters)
    need(is_number(many), "many")
    return tied_rule(tuple([(minus(a, b), b) for a, b in letters]), letters_tie(prime, many))


def checks_letters(prime, letters):
    """The letters by which the words of the checks come to words_sum, times how many words the book has."""
    need(is_prime(prime), "prime")
    need_any_letters(letters)
    return tuple([(plus(a, times((prime - 1, 1), b)), minus(a, b)) for a, b in letters])


def need_any_letters(letters):
    """Refuse what is no tuple of pairs of quotients, of whatever size."""
    need(isinstance(letters, tuple) and is_pairs(len(letters), letters), "letters")


def letters_tie(prime, many):
    """The tie that holds at all places of letters_rule."""
    return ((power(prime, many), 1), ONE)


def given_by(word, letters):
    """The product of what the word gives at all places."""
    return multiplied([a if digit == 0 else b for digit, (a, b) in zip(word, letters)])
