"""Words by weights [73] [76]."""

import itertools
import unittest
from fractions import Fraction

from cutorclose.books import checks_of
from cutorclose.errors import NotUsable
from cutorclose.letters import words_sum
from cutorclose.weights import checks_counts, weight_counts, words_on
from tests import plain
from tests.support import (BOTH, GREAT, GREAT_BOOKS, ODD_VALUES, RING, RULE_BOOKS, SMALL_BOOKS, STAR, WIDE, Case, lots_of, quotient,
                           refusal)
from tests.test_leavings import EIGHT
from tests.test_letters import BAD_PRIMES
from tests.test_lots import BAD_LOTS

# For each prime, what are no counts of any book, as their form and their sum show.
BAD_COUNTS = [(2, bad) for bad in (
    *ODD_VALUES[:-3], (0, 0), (GREAT,), (), (0,), (2,), (True,), (1, True), (1, None), (1, "1"), (1, -1), (1, 1, -1, 1), (1, (1,)), [1, 1],
    [1], "1", (1, 2), (1, 2, 0), (1, 0, 4), (0, 1), (0, 2, 0), (2, 0), (-1, 2), (1, 3), (1, 7, 0), (1, 0, 0, 15), (1, GREAT),
    (1, 1, [0]), (1, 0, 2, 2), (1, 1, False), ((1, 1),))]
BAD_COUNTS += [(3, (1, 1)), (3, (1, 0, 3)), (3, (1, 8)), (3, (1, 2, 24)), (5, (1, 1, 0)), (5, (1, 24)), (7, (1, 1)), (7, (1, 48)),
               (7, (1, 0, 2))]

# Of sums that are powers of the prime, but no book has them, as some of the numbers for the checks are none.
NO_BOOKS = [(2, (1, 3, 0, 0)), (2, (1, 0, 0, 7)), (2, (1, 7, 0, 0)), (3, (1, 8, 0)), (3, (1, 0, 26, 0)), (5, (1, 0, 24, 0)),
            (2, (1, 0, 0, 3)), (7, (1, 48, 0))]


def wanted_counts(prime, counts):
    """The numbers of the sum, from the constant on, divided: found by their values at so many points as there are numbers."""
    size, total = len(counts) - 1, sum(counts)
    sums = [sum(count * (1 + (prime - 1) * z) ** (size - k) * (1 - z) ** k for k, count in enumerate(counts)) for z in range(size + 1)]
    return [number / total for number in through(sums)]


def through(heights):
    """The numbers of the sum of powers of z that has these heights at 0, 1 and so on, by Lagrange."""
    result = [Fraction(0)] * len(heights)
    for at, height in enumerate(heights):
        numbers = [Fraction(height)]
        for other in range(len(heights)):
            if other != at:
                numbers = [(up - other * here) / (at - other) for here, up in zip([*numbers, 0], [0, *numbers])]
        result = [one + each for one, each in zip(result, numbers)]
    return result


class Counts(Case):
    def test_by_all_words(self):
        for book in (*RULE_BOOKS, *GREAT_BOOKS, *EIGHT[:3]):
            told = weight_counts(book)
            self.exact(told, plain.weight_counts(book))
            self.exact((len(told), sum(told)), (book[1] + 1, len(plain.words(book))))

    def test_words_on(self):
        for book in (*SMALL_BOOKS, *GREAT_BOOKS, EIGHT[0]):
            supports = [tuple(k for k, digit in enumerate(word) if digit) for word in plain.words(book)]
            for lot in lots_of(book[1]):
                self.exact(words_on(book, lot), supports.count(lot))
            self.exact(words_on(book, ()), 1)

    def test_they_come_to_the_counts(self):
        for book in SMALL_BOOKS:
            for k, count in enumerate(weight_counts(book)):
                self.exact(sum([words_on(book, lot) for lot in itertools.combinations(range(book[1]), k)]), count)

    def test_edges(self):
        for prime in (2, 3, 5, 7):
            self.exact(weight_counts((prime, 0, ())), (1,))
            self.exact(weight_counts((prime, 3, ())), (1, 0, 0, 0))
            self.exact(weight_counts((prime, 1, ((1,),))), (1, prime - 1))
            self.exact(words_on((prime, 0, ()), ()), 1)
            self.exact(words_on((prime, 2, ((1, 1),)), (0, 1)), prime - 1)
            self.exact([words_on((prime, 2, ((1, 1),)), lot) for lot in ((0,), (1,))], [0, 0])

    def test_lots_refused(self):
        for bad in BAD_LOTS:
            self.refused(NotUsable, refusal("lot"), words_on, RING, bad)
        self.refused(NotUsable, refusal("lot"), words_on, (2, 0, ()), (0,))


class OfChecks(Case):
    def test_of_books(self):
        for book in (*RULE_BOOKS, *GREAT_BOOKS):
            self.exact(checks_counts(book[0], weight_counts(book)), weight_counts(checks_of(book)))
        for book in SMALL_BOOKS:
            self.exact(checks_counts(book[0], plain.weight_counts(book)), plain.weight_counts(plain.checks(book)))

    def test_twice(self):
        for book in (*SMALL_BOOKS, *GREAT_BOOKS):
            counts = weight_counts(book)
            self.exact(checks_counts(book[0], checks_counts(book[0], counts)), counts)

    def test_of_all_counts(self):
        # Whether they are of a book or not.
        met = {True: 0, False: 0}
        for prime, size in ((2, 2), (2, 3), (2, 4), (3, 2), (3, 3), (5, 2), (7, 2)):
            for rank in range(size + 1):
                for counts in self.counts_of(size, prime ** rank - 1):
                    wanted = wanted_counts(prime, (1, *counts))
                    whole = all(number >= 0 and number.denominator == 1 for number in wanted)
                    met[whole] += 1
                    if whole:
                        self.exact(checks_counts(prime, (1, *counts)), tuple(int(number) for number in wanted))
                    else:
                        self.refused(NotUsable, refusal("counts"), checks_counts, prime, (1, *counts))
        self.assertGreater(min(met.values()), 20)

    def counts_of(self, many, total):
        """Some tuples of so many numbers that come to the total."""
        if many == 0:
            return [()] if total == 0 else []
        step = max(1, total // 4)
        firsts = sorted({*range(0, total + 1, step), total})
        if many == 1:
            return [(total,)]
        return [(first, *rest) for first in firsts for rest in self.counts_of(many - 1, total - first)]

    def test_edges(self):
        for prime in (2, 3, 5, 7):
            self.exact(checks_counts(prime, (1,)), (1,))
            self.exact(checks_counts(prime, (1, 0)), (1, prime - 1))
            self.exact(checks_counts(prime, (1, prime - 1)), (1, 0))
        self.exact(checks_counts(2, (1, 0, 0, 0, 14, 0, 0, 0, 1)), (1, 0, 0, 0, 14, 0, 0, 0, 1))
        self.exact(checks_counts(7, (1, *[0] * 8)), tuple(int(each) for each in wanted_counts(7, (1, *[0] * 8))))

    def test_counts_of_no_book(self):
        # (1, 0, 3) comes to a power of 2, but one of the numbers for the checks is below 0.
        self.exact(wanted_counts(2, (1, 0, 3))[1], Fraction(-1))
        self.refused(NotUsable, refusal("counts"), checks_counts, 2, (1, 0, 3))
        self.exact(checks_counts(2, (1, 1, 0)), (1, 1, 0))
        for prime, counts in NO_BOOKS:
            self.assertFalse(all(each >= 0 and each.denominator == 1 for each in wanted_counts(prime, counts)))
            self.refused(NotUsable, refusal("counts"), checks_counts, prime, counts)

    def test_refused_in_order(self):
        for bad in BAD_PRIMES:
            self.refused(NotUsable, refusal("prime"), checks_counts, bad, (1, 1))
            self.refused(NotUsable, refusal("prime"), checks_counts, bad, None)
        for prime, bad in BAD_COUNTS:
            with self.subTest(prime=prime, counts=bad):
                self.refused(NotUsable, refusal("counts"), checks_counts, prime, bad)

    def test_by_letters(self):
        # The counts, as numbers of a sum of powers of z, are words_sum with 1 for 0 and z for any other digit.
        for book in (*SMALL_BOOKS, WIDE, BOTH, STAR):
            for z in (Fraction(0), Fraction(2), Fraction(-1, 3)):
                told = sum(count * z ** k for k, count in enumerate(weight_counts(book)))
                self.exact(words_sum(book, (((1, 1), quotient(z)),) * book[1]), quotient(Fraction(told)))


if __name__ == "__main__":
    unittest.main()
