"""Words by letters [11] [73] [74] [75] [79]."""

import random
import unittest
from fractions import Fraction

from cutorclose.books import checks_of, words_of
from cutorclose.errors import NotUsable
from cutorclose.fitting import fits, worth_of
from cutorclose.letters import checks_letters, letters_rule, tuples_sum, words_sum
from cutorclose.lotsums import lot_sum, tied_rule
from cutorclose.quotients import times
from cutorclose.tyings import holds_at
from tests import plain
from tests.support import (BOTH, GREAT, GREAT_BOOKS, NUMBERS, ODD_VALUES, RING, RULE_BOOKS, SMALL_BOOKS, STAR, WIDE, Case,
                           quotient, quotients, refusal)
from tests.test_leavings import EIGHT
from tests.test_lotsums import BAD_PAIRS, NO_PAIRS

TWOS = (((2, 1), (1, 1)),) * 3
COUNT, NONE = ((1, 1), (1, 1)), ((1, 1), (0, 1))
BAD_PRIMES = (None, True, 0, 1, 4, 9, 11, -2, "2", (2,), [2], 2 ** 61)
BAD_NUMBERS = (None, True, False, -1, "1", (1,), [1], ())

# What are no letters of three places.
BAD_LETTERS = (*ODD_VALUES, *BAD_PAIRS, (), TWOS[:2], (*TWOS, TWOS[0]))


def letters_of(size, many, salt=0):
    """Some letters of a size, the same ones each time."""
    dice = random.Random(f"{size} {many} {salt} letters")
    told = [tuple(quotients(dice.choice(NUMBERS) for _ in range(2)) for _ in range(size)) for _ in range(many)]
    return [*told, (COUNT,) * size, (NONE,) * size]


def fractions(letters):
    return tuple(tuple(Fraction(*each) for each in pair) for pair in letters)


class Sums(Case):
    def test_over_all_words(self):
        for book in (*RULE_BOOKS, *GREAT_BOOKS, *EIGHT[:3]):
            for letters in letters_of(book[1], 2):
                wanted = sum(plain.given([word], fractions(letters)) for word in plain.words(book))
                self.exact(words_sum(book, letters), quotient(Fraction(wanted)))

    def test_over_all_tuples_of_words(self):
        # (G6), by going through all of them.
        met = {many: 0 for many in range(7)}
        for book in (*SMALL_BOOKS, RING, STAR, BOTH):
            for letters in letters_of(book[1], 2, "tuples"):
                for many in range(7):
                    if len(plain.words(book)) ** many <= 300:
                        wanted = plain.tuples_sum(book, fractions(letters), many)
                        self.exact(tuples_sum(book, letters, many), quotient(Fraction(wanted)))
                        met[many] += 1
        self.assertGreater(min(met.values()), 20)

    def test_one_word_and_none(self):
        for book in (*RULE_BOOKS, *GREAT_BOOKS, *EIGHT[:3]):
            for letters in letters_of(book[1], 2, "one"):
                self.exact(tuples_sum(book, letters, 1), words_sum(book, letters))
                product = (1, 1)
                for a, _ in letters:
                    product = times(product, a)
                self.exact(tuples_sum(book, letters, 0), product)

    def test_edges(self):
        for prime in (2, 3, 5, 7):
            for many in range(7):
                self.exact(tuples_sum((prime, 0, ()), (), many), (1, 1))
                self.exact(tuples_sum((prime, 2, ()), (((2, 1), (5, 1)), ((3, 1), (7, 1))), many), (6, 1))
            self.exact(words_sum((prime, 0, ()), ()), (1, 1))
            self.exact(words_sum((prime, 2, ()), (((2, 1), (5, 1)), ((3, 1), (7, 1)))), (6, 1))
            whole = (prime, 1, ((1,),))
            self.exact(words_sum(whole, (((2, 1), (5, 1)),)), (2 + 5 * (prime - 1), 1))
            self.exact(tuples_sum(whole, (((2, 1), (5, 1)),), 3), (2 + 5 * (prime ** 3 - 1), 1))
        # Each place has letters of its own.
        letters = (((2, 1), (3, 1)), ((5, 1), (7, 1)), ((11, 1), (13, 1)))
        self.exact(words_sum(RING, letters), (2 * 5 * 11 + 3 * 5 * 13 + 2 * 7 * 13 + 3 * 7 * 11, 1))
        self.exact(words_sum(STAR, letters), (2 * 5 * 11 + 3 * 7 * 13, 1))
        self.exact(tuples_sum(STAR, letters, 2), (2 * 5 * 11 + 3 * 3 * 7 * 13, 1))
        self.exact(tuples_sum(STAR, letters, 6), (2 * 5 * 11 + 63 * 3 * 7 * 13, 1))

    def test_many_words(self):
        # 1024 words of eight places of two, 343 of greater primes, and long quotients.
        book = (2, 8, tuple(tuple(int(k == at) for at in range(8)) for k in range(8)))
        self.exact(words_sum(book, (((1, 2), (1, 3)),) * 8), (5 ** 8, 6 ** 8))
        self.exact(words_sum((7, 3, ((1, 0, 0), (0, 1, 0), (0, 0, 1))), (((GREAT, 1), (0, 1)),) * 3), (GREAT ** 3, 1))
        self.exact(tuples_sum((2, 8, ()), (((GREAT, 1), (GREAT, 2)),) * 8, 6), quotient(Fraction(GREAT) ** 8))

    def test_refused_in_order(self):
        for bad in BAD_LETTERS:
            self.refused(NotUsable, refusal("letters"), words_sum, RING, bad)
            self.refused(NotUsable, refusal("letters"), tuples_sum, RING, bad, 2)
            self.refused(NotUsable, refusal("letters"), tuples_sum, RING, bad, None)
        for bad in BAD_NUMBERS:
            self.refused(NotUsable, refusal("many"), tuples_sum, RING, TWOS, bad)
        self.refused(NotUsable, refusal("letters"), words_sum, (2, 0, ()), TWOS[:1])
        self.refused(NotUsable, refusal("letters"), tuples_sum, (2, 0, ()), None, 0)


class Rules(Case):
    def test_the_rule(self):
        for prime in (2, 3, 5, 7):
            for size in range(4):
                for letters in letters_of(size, 3, "rule"):
                    for many in range(4):
                        rule = letters_rule(prime, letters, many)
                        pairs = [(a - b, b) for a, b in fractions(letters)]
                        wanted = [(x, y, x + prime ** many * y, y + x) for x, y in pairs]
                        self.exact(rule, plain.quotient_rule(wanted))
                        self.exact(holds_at(rule, ((prime ** many, 1), (1, 1)), tuple(range(size))), True)
                        self.exact(rule, tied_rule(tuple(quotients(pair) for pair in pairs), ((prime ** many, 1), (1, 1))))

    def test_its_worth(self):
        for book in RULE_BOOKS:
            for letters in letters_of(book[1], 1, "worth"):
                for many in (0, 1, 2, 5):
                    rule = letters_rule(book[0], letters, many)
                    self.exact(fits(book, rule), True)
                    self.exact(worth_of(book, rule), tuples_sum(book, letters, many))

    def test_the_sum_over_all_lots(self):
        # (G6) as it is written there.
        for book in RULE_BOOKS:
            for letters in letters_of(book[1], 2, "lots"):
                pairs = tuple(quotients((a - b, b)) for a, b in fractions(letters))
                self.exact(lot_sum(book, pairs, ((book[0], 1), (1, 1))), words_sum(book, letters))
                for many in range(4):
                    self.exact(lot_sum(book, pairs, ((book[0] ** many, 1), (1, 1))), tuples_sum(book, letters, many))

    def test_any_size(self):
        self.exact(letters_rule(3, (), 6), ())
        self.exact(letters_rule(7, TWOS[:1], 6), (((1, 1), (1, 1), (1 + 7 ** 6, 1), (2, 1)),))
        self.exact(len(letters_rule(7, TWOS[:1] * 8, 1)), 8)

    def test_refused_in_order(self):
        for bad in BAD_PRIMES:
            self.refused(NotUsable, refusal("prime"), letters_rule, bad, TWOS, 1)
            self.refused(NotUsable, refusal("prime"), letters_rule, bad, None, None)
            self.refused(NotUsable, refusal("prime"), checks_letters, bad, TWOS)
            self.refused(NotUsable, refusal("prime"), checks_letters, bad, None)
        for bad in (*ODD_VALUES, *BAD_PAIRS, *NO_PAIRS[4:-1]):
            if bad != ():
                self.refused(NotUsable, refusal("letters"), letters_rule, 2, bad, 1)
                self.refused(NotUsable, refusal("letters"), letters_rule, 2, bad, None)
                self.refused(NotUsable, refusal("letters"), checks_letters, 2, bad)
        for bad in BAD_NUMBERS:
            self.refused(NotUsable, refusal("many"), letters_rule, 2, TWOS, bad)


class Checks(Case):
    def test_the_letters(self):
        self.exact(checks_letters(5, (((2, 1), (1, 3)), ((0, 1), (1, 1)))), (((10, 3), (5, 3)), ((4, 1), (-1, 1))))
        for prime in (2, 3, 5, 7):
            self.exact(checks_letters(prime, ()), ())
            for letters in letters_of(3, 4, "checks"):
                wanted = tuple(quotients((a + (prime - 1) * b, a - b)) for a, b in fractions(letters))
                self.exact(checks_letters(prime, letters), wanted)

    def test_words_of_the_checks(self):
        for book in (*RULE_BOOKS, WIDE, BOTH):
            for letters in letters_of(book[1], 2, "of checks"):
                told = words_sum(book, checks_letters(book[0], letters))
                many = len(plain.words(book))
                self.exact(told, times((many, 1), words_sum(checks_of(book), letters)))
                wanted = sum(plain.given([word], fractions(letters)) for word in plain.words(plain.checks(book)))
                self.assertEqual(Fraction(*told), wanted * many)

    def test_twice(self):
        for prime in (2, 3, 5, 7):
            for letters in letters_of(2, 4, "twice"):
                told = checks_letters(prime, checks_letters(prime, letters))
                self.exact(told, tuple(quotients((prime * a, prime * b)) for a, b in fractions(letters)))


class Consequences(Case):
    def test_how_many_words(self):
        for book in (*RULE_BOOKS, *GREAT_BOOKS):
            self.exact(words_sum(book, (COUNT,) * book[1]), (len(list(words_of(book))), 1))
            self.exact(words_sum(book, (NONE,) * book[1]), (1, 1))
            self.exact(tuples_sum(book, (COUNT,) * book[1], 3), (len(plain.words(book)) ** 3, 1))


if __name__ == "__main__":
    unittest.main()
