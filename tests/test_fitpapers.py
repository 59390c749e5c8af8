"""Papers of whether a rule fits, as fit_paper tells them, by the tests' own reckoning [47] [48] [49]."""

import unittest
from fractions import Fraction

from cutorclose.errors import NotUsable
from cutorclose.fitpapers import fit_paper
from tests import plain
from tests.papers import PaperCase, has_parts_paper
from tests.support import BAD_RULES, BOTH, FOUR, GREAT_BOOKS, LONE, ODD, RING, RULE_BOOKS, STAR, WIDE, four_by, quotients, rules_of
from tests.test_leavings import EIGHT

# Alike at a pair only: pair gaps are nought, brackets are not.
LOOSE = tuple(four_by(Fraction(x), Fraction(y), Fraction(1), Fraction(2), Fraction(3)) for x, y in ((1, 1), (1, 2), (2, 1)))


def refusal(word):
    return {"word": word, "at": -1}


class Papers(PaperCase):
    def check_paper(self, book, rule):
        """Check the paper of a rule, and return its word."""
        paper = fit_paper(book, rule)
        self.assertIs(type(paper), tuple)
        self.assertEqual(paper[0] == "parts", has_parts_paper(book, rule))
        if paper[0] == "parts":
            self.check_parts(book, rule, *paper[1:])
        elif paper[0] == "clash":
            self.check_clash(book, rule, paper)
        else:
            self.exact(paper, ("all",))
        return paper[0]

    def test_small_books(self):
        met = {"parts": 0, "all": 0, "clash": 0}
        for book in RULE_BOOKS:
            for rule in rules_of(book[1], 2, "papers"):
                word = self.check_paper(book, rule)
                self.assertEqual(word == "clash", not plain.fits(book, rule))
                met[word] += 1
        self.assertGreater(min(met.values()), 20)

    def test_greater_books(self):
        met = set()
        for book in (*GREAT_BOOKS, *EIGHT[:3]):
            for rule in rules_of(book[1], 2, "papers"):
                met.add(self.check_paper(book, rule))
        self.assertEqual(met, {"parts", "all", "clash"})

    def test_a_greater_book_that_fits_without_a_tie(self):
        # A four with noughts everywhere alike, which no tie holds.
        flat = quotients(map(Fraction, (1, 0, 2, 3)))
        self.exact(fit_paper(WIDE, (flat,) * 4), ("all",))
        self.assertTrue(plain.fits(WIDE, (flat,) * 4))

    def test_edges(self):
        for prime in (2, 3, 5, 7):
            self.exact(fit_paper((prime, 0, ()), ()), ("parts", ()))
        for book in ((2, 3, ()), (3, 3, ((1, 0, 0), (0, 1, 0), (0, 0, 1))), LONE):
            for rule in rules_of(book[1], 3, "edges"):
                self.check_paper(book, rule)
        self.exact(fit_paper(BOTH, (FOUR,) * 6)[1][0][1], ((2, 1), (1, 1)))

    def test_two_places_without_a_tie(self):
        flat = quotients(map(Fraction, (1, 0, 2, 3)))
        self.exact(fit_paper((2, 2, ((1, 1),)), (flat, flat)), ("parts", (((0, 1), None),)))
        other = quotients(map(Fraction, (1, 0, 2, 4)))
        self.assertEqual(fit_paper((2, 2, ((1, 1),)), (flat, other))[0], "clash")

    def test_clashes_at_rings_and_stars_only(self):
        for book in (RING, STAR, WIDE, BOTH):
            rule = (LOOSE * 2)[:book[1]]
            self.assertEqual(self.check_paper(book, rule), "clash")
            paper = fit_paper(book, rule)
            self.assertEqual(len(paper[3]), 3)
        self.exact(fit_paper(RING, LOOSE)[:3], ("clash", (), ()))

    def test_rules_with_noughts(self):
        for book in (RING, STAR, WIDE, BOTH):
            self.assertEqual(self.check_paper(book, (((0, 1),) * 4,) * book[1]), "parts")
        # One of the closed and cut numbers nought at all places, so that any will do in the tie.
        for four in (((1, 1), (0, 1), (1, 1), (2, 1)), ((0, 1), (1, 1), (2, 1), (1, 1))):
            self.assertEqual(self.check_paper(RING, (four,) * 3), "parts")

    def test_refused(self):
        for bad in BAD_RULES:
            self.refused(NotUsable, refusal("rule"), fit_paper, RING, bad)
        self.refused(NotUsable, refusal("rule"), fit_paper, (2, 0, ()), ODD)
        self.refused(NotUsable, refusal("rule"), fit_paper, (2, 0, ()), None)


if __name__ == "__main__":
    unittest.main()
