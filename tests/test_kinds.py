"""The functions that judge a value [2] [3] [14]."""

import itertools
import math
import unittest

from cutorclose.kinds import (is_book, is_integer, is_lot, is_number, is_order, is_prime, is_quotient, is_word)
from tests.support import BOTH, GREAT, ODD_VALUES, RING, SMALL_BOOKS, STAR, WIDE, Case


class Kinds(Case):
    def test_integers(self):
        for thing in (0, 1, -1, GREAT, -GREAT):
            self.exact(is_integer(thing), True)
        for thing in (True, False, None, "1", "", (), (1,), [1], [[]]):
            self.exact(is_integer(thing), False)

    def test_numbers(self):
        for thing in (0, 1, GREAT):
            self.exact(is_number(thing), True)
        for thing in (-1, -GREAT, True, False, None, "0", (0,), [0]):
            self.exact(is_number(thing), False)

    def test_primes(self):
        self.assertEqual([k for k in range(-20, 200) if is_prime(k)], [2, 3, 5, 7])
        for thing in (True, None, "2", (2,), [2], GREAT, 11):
            self.exact(is_prime(thing), False)

    def test_quotients(self):
        for top, bottom in itertools.product(range(-7, 8), repeat=2):
            self.exact(is_quotient((top, bottom)), bottom >= 1 and math.gcd(top, bottom) == 1)
        self.exact(is_quotient((GREAT, GREAT - 1)), True)
        self.exact(is_quotient((GREAT, 9)), False)
        for thing in ([1, 1], (1,), (1, 1, 1), (True, 1), (1, True), (0, True), (None, 1), ("1", 1), ((1, 1), 1), 1, True,
                      None, "", (), [], (1, 0), (0, 0), (0, 2), (1, -1)):
            self.exact(is_quotient(thing), False)

    def test_words(self):
        for prime in (2, 3, 5, 7):
            for size in range(3):
                for digits in itertools.product(range(-1, prime + 1), repeat=size):
                    wanted = all(0 <= digit < prime for digit in digits)
                    self.exact(is_word(prime, size, digits), wanted)
                    self.exact(is_word(prime, size, list(digits)), False)
                    self.exact(is_word(prime, size + 1, digits), False)
        self.exact(is_word(2, 0, ()), True)
        self.exact(is_word(2, 0, []), False)
        self.exact(is_word(2, 2, (0, True)), False)
        self.exact(is_word(2, 2, (0, None)), False)
        self.exact(is_word(2, 2, (0, (1,))), False)
        self.exact(is_word(2, 2, "01"), False)
        self.exact(is_word(2, 40, (1,) * 40), True)
        self.exact(is_word(2, GREAT, (0, 1)), False)

    def test_lots(self):
        for size in range(4):
            for many in range(4):
                for lot in itertools.product(range(-1, size + 1), repeat=many):
                    wanted = lot in itertools.combinations(range(size), many)
                    self.exact(is_lot(size, lot), wanted)
                    self.exact(is_lot(size, list(lot)), False)
        self.exact(is_lot(0, ()), True)
        self.exact(is_lot(GREAT, (0, GREAT - 1)), True)
        self.exact(is_lot(GREAT, (0, GREAT)), False)
        for thing in ((False,), (0, True), (None,), ("0",), ((0,),), "01", None, True, 0, []):
            self.exact(is_lot(2, thing), False)

    def test_orders(self):
        for size in range(4):
            for many in range(4):
                for order in itertools.product(range(-1, size + 1), repeat=many):
                    wanted = sorted(order) == list(range(size))
                    self.exact(is_order(size, order), wanted)
                    self.exact(is_order(size, list(order)), False)
        for thing in ((False, 1), (0, True), (0, None), (0, "1"), (0, (1,)), "01", None, 2, True):
            self.exact(is_order(2, thing), False)
        self.exact(is_order(GREAT, ()), False)
        self.exact(is_order(0, ()), True)

    def test_books(self):
        for book in (RING, STAR, BOTH, WIDE, (2, 0, ()), (7, GREAT, ()), *SMALL_BOOKS):
            self.exact(is_book(book), True)
            self.exact(is_book(list(book)), False)
            self.exact(is_book((*book[:2], list(book[2]))), False)
        for thing in ODD_VALUES:
            self.exact(is_book(thing), False)
        for thing in ((2, 3), (4, 1, ()), (2, -1, ()), (2, True, ()), (2, 1, []), (2, 1, ((True,),)), (2, 1, ([1],)),
                      (2, 1, ((0,),)), (2, 0, ((),)), (3, 1, ((2,),)), (2, 2, ((0, 1), (1, 0))), (2, 2, ((1, 1), (0, 1))),
                      (2, 1, ((1,),), ()), (11, 1, ())):
            self.exact(is_book(thing), False)


if __name__ == "__main__":
    unittest.main()
