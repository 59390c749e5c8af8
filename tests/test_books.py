"""Books by their words [4] [5] [17]: against sets of words."""

import itertools
import types
import unittest

from cutorclose.books import beside, checks_of, has_word, span_of, words_of
from cutorclose.errors import NotUsable
from cutorclose.kinds import is_book
from tests import plain
from tests.support import BOTH, GREAT, GREAT_BOOKS, RING, SMALL_BOOKS, STAR, WIDE, Case


def refusal(word):
    return {"word": word, "at": -1}


class Spans(Case):
    def test_of_all_few_words(self):
        for prime, size in ((2, 3), (3, 2), (5, 1), (7, 1)):
            every = list(itertools.product(range(prime), repeat=size))
            for words in itertools.product(every, repeat=2):
                book = span_of(prime, size, words)
                self.exact(is_book(book), True)
                sums = {tuple((a * x + b * y) % prime for x, y in zip(*words))
                        for a in range(prime) for b in range(prime)}
                self.assertEqual(plain.words(book), sums)
                self.exact(book, plain.book(prime, size, sums))

    def test_book_of_its_own_words_in_any_order(self):
        for book in (*SMALL_BOOKS, *GREAT_BOOKS):
            words = sorted(plain.words(book), reverse=True)[:120]
            if len(words) == len(plain.words(book)):
                self.exact(span_of(book[0], book[1], tuple(words)), book)
            self.exact(span_of(book[0], book[1], book[2]), book)

    def test_edges(self):
        self.exact(span_of(2, 0, ()), (2, 0, ()))
        self.exact(span_of(2, 0, ((), ())), (2, 0, ()))
        self.exact(span_of(3, 2, ()), (3, 2, ()))
        self.exact(span_of(3, 2, ((0, 0),)), (3, 2, ()))
        self.exact(span_of(7, 3, ((0, 3, 6), (0, 6, 5), (0, 0, 2))), (7, 3, ((0, 1, 0), (0, 0, 1))))
        self.exact(span_of(7, GREAT, ()), (7, GREAT, ()))

    def test_forty_places(self):
        words = tuple(tuple((k * k + at * (k + 1)) % 5 for at in range(40)) for k in range(40))
        book = span_of(5, 40, words)
        self.exact(is_book(book), True)
        self.assertTrue(all(has_word(book, word) for word in words))
        self.exact(span_of(5, 40, tuple(reversed(words))), book)

    def test_refused(self):
        for bad in (4, True, None, "2", (2,), -2, 0):
            self.refused(NotUsable, refusal("prime"), span_of, bad, -1, None)
        for bad in (-1, True, None, "1", (1,)):
            self.refused(NotUsable, refusal("size"), span_of, 2, bad, None)
        for bad in (None, [], [(1, 1)], ((1,),), ((1, 1), (1, 2)), ((1, True),), ([1, 1],), "", 0, (1, 1), ((1, 1), None)):
            self.refused(NotUsable, refusal("words"), span_of, 2, 2, bad)


class Words(Case):
    def test_a_generator_of_all_words_ascending(self):
        for book in (*SMALL_BOOKS, *GREAT_BOOKS):
            words = words_of(book)
            self.assertIsInstance(words, types.GeneratorType)
            self.exact(list(words), sorted(plain.words(book)))
        self.exact(list(words_of((5, 0, ()))), [()])
        self.exact(list(words_of((5, 2, ()))), [(0, 0)])

    def test_one_by_one(self):
        rows = tuple(tuple(int(k == at) for at in range(40)) for k in range(40))
        words = words_of((7, 40, rows))
        self.exact(next(words), (0,) * 40)
        self.exact(next(words), (0,) * 39 + (1,))

    def test_two_thousand_words(self):
        rows = tuple(tuple(int(k == at) for at in range(10)) + (1,) * 30 for k in range(10))
        words = list(words_of((2, 40, rows)))
        self.assertEqual(len(words), 1024)
        self.assertEqual(words, sorted(set(words)))

    def test_has_word(self):
        for book in SMALL_BOOKS:
            words = plain.words(book)
            for word in itertools.product(range(book[0]), repeat=book[1]):
                self.exact(has_word(book, word), word in words)

    def test_has_word_refused(self):
        for bad in ((1, 1), (1, 1, 0, 0), (1, 1, 2), (1, 1, True), [1, 1, 0], None, "110", (), 0):
            self.refused(NotUsable, refusal("word"), has_word, RING, bad)
        self.exact(has_word((2, 0, ()), ()), True)
        self.refused(NotUsable, refusal("word"), has_word, (2, 0, ()), [])


class Checks(Case):
    def test_by_their_definition(self):
        for book in (*SMALL_BOOKS, *GREAT_BOOKS):
            if book[0] ** book[1] <= 4000:
                self.exact(checks_of(book), plain.checks(book))
            self.exact(checks_of(checks_of(book)), book)

    def test_edges(self):
        self.exact(checks_of((2, 0, ())), (2, 0, ()))
        self.exact(checks_of((3, 2, ())), (3, 2, ((1, 0), (0, 1))))
        self.exact(checks_of((3, 2, ((1, 0), (0, 1)))), (3, 2, ()))
        self.exact(checks_of((7, 2, ((1, 3),))), (7, 2, ((1, 2),)))

    def test_forty_places(self):
        words = tuple(tuple((k + at * at) % 3 for at in range(40)) for k in range(3))
        book = span_of(3, 40, words)
        checks = checks_of(book)
        self.assertEqual(len(book[2]) + len(checks[2]), 40)
        for row in book[2]:
            for other in checks[2]:
                self.assertEqual(sum(a * b for a, b in zip(row, other)) % 3, 0)
        self.exact(checks_of(checks), book)


class Beside(Case):
    def test_each_word_with_each_one(self):
        for prime in (2, 3, 5, 7):
            books = [book for book in SMALL_BOOKS if book[0] == prime][:14]
            for one, other in itertools.product(books, repeat=2):
                wanted = {(*a, *b) for a in plain.words(one) for b in plain.words(other)}
                self.exact(beside(one, other), plain.book(prime, one[1] + other[1], wanted))
        self.exact(beside(RING, STAR), BOTH)
        self.exact(beside((2, 0, ()), RING), RING)
        self.exact(beside(RING, (2, 0, ())), RING)

    def test_another_prime_is_refused(self):
        self.refused(NotUsable, refusal("other"), beside, RING, WIDE)
        self.refused(NotUsable, refusal("other"), beside, (5, 0, ()), (7, 0, ()))


if __name__ == "__main__":
    unittest.main()
