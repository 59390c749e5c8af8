"""Words of a book counted by where they have digits other than 0."""

from cutorclose.books import words_of
from cutorclose.kinds import is_lot, is_number, is_prime
from cutorclose.needs import need
from cutorclose.quotients import power


def weight_counts(book):
    """The tuple of how many words have just k digits other than 0, for each k up to the size."""
    weights = [len(support_of(word)) for word in words_of(book)]
    return tuple([weights.count(k) for k in range(book[1] + 1)])


def words_on(book, lot):
    """How many words have digits other than 0 at all places of the lot and nowhere else."""
    need(is_lot(book[1], lot), "lot")
    return len([word for word in words_of(book) if support_of(word) == lot])


def checks_counts(prime, counts):
    """The weight_counts of the checks of a book of the prime with these weight_counts."""
    need(is_prime(prime), "prime")
    need(is_counts(prime, counts), "counts")
    sums = checks_sums(prime, counts)
    whole = sum(counts)
    # Only of the counts of a book is each of these surely a number.
    need(all([each >= 0 and each % whole == 0 for each in sums]), "counts")
    return tuple([each // whole for each in sums])


def support_of(word):
    """The lot of the places where the word has digits other than 0."""
    return tuple([place for place, digit in enumerate(word) if digit != 0])


def is_counts(prime, thing):
    """Whether any value can be weight_counts: numbers that begin with 1 and come to how many words there are."""
    if not isinstance(thing, tuple) or len(thing) == 0 or not all([is_number(each) for each in thing]):
        return False
    powers = [power(prime, rank) for rank in range(len(thing))]
    return thing[0] == 1 and sum(thing) in powers


def checks_sums(prime, counts):
    """A list of the numbers of the sum over k of counts[k] times (1 + (prime - 1) z)^(n - k) (1 - z)^k."""
    size = len(counts) - 1
    sums = [0 for _ in counts]
    for k, count in enumerate(counts):
        numbers = spread(size - k, prime - 1, k)
        sums = [each + count * number for each, number in zip(sums, numbers)]
    return sums


def spread(many, slope, others):
    """A list of the numbers, from the constant on, of (1 + slope z)^many (1 - z)^others."""
    numbers = [1]
    for k in range(many + others):
        numbers = widened(numbers, slope if k < many else -1)
    return numbers


def widened(numbers, slope):
    """A list of the numbers of a sum of powers of z, which has these, times 1 + slope z."""
    return [here + slope * ahead for here, ahead in zip([*numbers, 0], [0, *numbers])]
