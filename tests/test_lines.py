"""Books written and read as lines [13] [21]."""

import unittest

from cutorclose.bookreadings import read_book
from cutorclose.booktexts import book_line
from cutorclose.errors import InvalidText, NotUsable
from cutorclose.kinds import is_book
from tests.support import GREAT, GREAT_BOOKS, SMALL_BOOKS, Case

NINES = "9" * 60
FAULTS = (
    # An empty string is one empty word; the first word.
    ("", 0), (" ", 0), ("Book 2 1", 0), (" book 2 1", 0), ("book\n", 0), ("/", 0), ("2 1", 0), ("books", 0), ("\n", 0),
    # Words that lack.
    ("book", 1), ("book 2", 2), ("book 2 1 /", 4), ("book 2 2 / 1", 5), ("book 2 3 / 1 0 1 / 0", 9), ("book 2 3 / 1 0 1 /", 8),
    # The prime.
    ("book ", 1), ("book  2 1", 1), ("book 4 1", 1), ("book 02 1", 1), ("book +2 1", 1), ("book two 1", 1), ("book -2 1", 1),
    ("book 2\n 1", 1), ("book 0 1", 1), ("book 1 1", 1), ("book 11 1", 1), ("book / 1", 1), ("book 2/1 1", 1),
    ("book " + NINES + "9 1", 1), ("book x y z", 1),
    # The size.
    ("book 2 ", 2), ("book 2  1", 2), ("book 2 -1", 2), ("book 2 01", 2), ("book 2 00", 2), ("book 2 1\n", 2), ("book 2 /", 2),
    ("book 2 " + NINES + "9", 2), ("book 2 " + NINES + "9 x", 2), ("book 2 1_0", 2), ("book 2 x /", 2), ("book 2 1.", 2),
    # What stands where a row can begin.
    ("book 2 1 ", 3), ("book 2 1 1", 3), ("book 2 1 // 1", 3), ("book 2 1 /\n", 3), ("book 2 0 ", 3), ("book 2 0 1", 3),
    ("book 2 1  / 1", 3), ("book 2 1 / 1 ", 5), ("book 2 1 / 1 1", 5), ("book 2 1 / 1 x", 5), ("book 2 1 / 1  / 1", 5),
    ("book 2 0 rule", 3), ("book 2 1 rule", 3), ("book 2 1 / 1 rule", 5), ("book 2 1 / 1 rule 1 1 3 2", 5), ("book 2 rule", 2), ("book rule", 1),
    # The digits.
    ("book 2 1 / 2", 4), ("book 2 1 / 01", 4), ("book 2 1 / ", 4), ("book 2 1 / /", 4), ("book 2 1 / 1\n", 4),
    ("book 3 2 / 1 3", 5), ("book 7 2 / 1 7", 5), ("book 2 3 / 1 / 1", 5), ("book 2 3 / 0 0 2", 6), ("book 2 3 / 0 0 ", 6),
    ("book 2 1 / " + NINES, 4), ("book 2 1 / " + NINES + "9", 4), ("book 2 1 / -1", 4), ("book 2 1 / rule", 4),
    ("book 2 3 / 1 1 0 / 0 1 2", 10), ("book 2 3 / 1 1 0 / 0 x 1", 9),
    # A whole row that is all 0, or not settled: its own /, ahead of all behind it.
    ("book 2 0 /", 3), ("book 2 0 / 1", 3), ("book 2 0 / /", 3), ("book 2 0 / ", 3), ("book 2 1 / 0", 3), ("book 2 1 / 0 x", 3),
    ("book 3 1 / 2", 3), ("book 3 1 / 2 / 9", 3), ("book 3 2 / 0 2 ", 3), ("book 2 2 / 1 0 / 1 1", 6), ("book 2 2 / 0 1 / 1 0", 6),
    ("book 2 2 / 1 1 / 0 1", 6), ("book 2 2 / 1 1 / 0 1 x", 6), ("book 2 2 / 1 0 / 0 0 / 7", 6), ("book 2 1 / 1 / 1", 5),
    ("book 2 1 / 1 / 0", 5), ("book 2 3 / 1 0 1 / 0 1 0 / 0 0 1", 11), ("book 3 2 / 1 0 / 0 2", 6),
    # A row that is not whole is not yet judged.
    ("book 2 2 / 0", 5), ("book 3 2 / 2", 5), ("book 2 2 / 1 0 / 1", 8), ("book 2 2 / 0 x", 5),
    # Great sizes.
    ("book 2 " + NINES + " / 1 0", 6), ("book 2 " + NINES + " / 1 2", 5), ("book 2 " + NINES + " / 1 x 0", 5),
)


class Lines(Case):
    def test_written(self):
        self.exact(book_line((2, 0, ())), "book 2 0")
        self.exact(book_line((7, 2, ((1, 6),))), "book 7 2 / 1 6")
        self.exact(book_line((3, 3, ((1, 0, 2), (0, 1, 0)))), "book 3 3 / 1 0 2 / 0 1 0")
        self.exact(book_line((5, GREAT, ())), "book 5 " + NINES)

    def test_read_what_is_written(self):
        for book in (*SMALL_BOOKS, *GREAT_BOOKS, (5, GREAT, ())):
            self.exact(read_book(book_line(book)), book)

    def test_forty_places(self):
        rows = tuple(tuple(int(at == k or at >= 20) for at in range(40)) for k in range(20))
        self.exact(read_book(book_line((3, 40, rows))), (3, 40, rows))

    def test_the_field_of_each_fault(self):
        for text, field in FAULTS:
            with self.subTest(text=text):
                self.refused(InvalidText, {"line": 0, "field": field}, read_book, text)

    def test_each_change_of_one_word(self):
        words = "book 3 3 / 1 0 2 / 0 1 1".split(" ")
        for at in range(len(words)):
            for word in ("", "x", "/", "0", "1", "2", "3", "00"):
                changed = [*words[:at], word, *words[at + 1:]]
                try:
                    book = read_book(" ".join(changed))
                except InvalidText as error:
                    self.exact(error.line, 0)
                    self.assertLessEqual(error.field, len(words))
                else:
                    self.exact(is_book(book), True)
                    self.exact(book_line(book), " ".join(changed))

    def test_no_string(self):
        for bad in (None, True, 0, (), ("book 2 0",), ["book 2 0"], (2, 0, ())):
            self.refused(NotUsable, {"word": "text", "at": -1}, read_book, bad)


if __name__ == "__main__":
    unittest.main()
