"""Rules mended in one number [11] [43] [51]."""

import unittest
from fractions import Fraction

from cutorclose.errors import NotUsable
from cutorclose.fitting import fits
from cutorclose.kinds import is_quotient
from cutorclose.mendings import mended, mending_spots, values_for
from tests import plain
from tests.support import (BAD_PLACES, BAD_RULES, BOTH, FOUR, GREAT_BOOKS, LONE, ODD, RING, RULE_BOOKS, STAR, WIDE, Case,
                           quotient, rules_of)
from tests.test_fitpapers import LOOSE

TRIED = [quotient(Fraction(*each)) for each in ((0, 1), (1, 1), (-1, 1), (2, 1), (1, 2), (-3, 2), (22, 7))]
SOME_BOOKS = [book for book in RULE_BOOKS if book[1] < 4][::3] + [RING, STAR, LONE]


def refusal(word):
    return {"word": word, "at": -1}


def spots(size):
    return [(place, index) for place in range(size) for index in range(4)]


def put(rule, place, index, number):
    four = (*rule[place][:index], number, *rule[place][index + 1:])
    return (*rule[:place], four, *rule[place + 1:])


class Mendings(Case):
    def check(self, book, rule, place, index, judge):
        """Check what is told of one number, the judge telling whether a rule fits; return the word."""
        values = values_for(book, rule, place, index)
        self.assertIs(type(values), tuple)
        told = mended(book, rule, place, index)
        if values[0] == "one":
            self.assertTrue(is_quotient(values[1]))
            self.exact(values, ("one", values[1]))
            self.exact(told, put(rule, place, index, values[1]))
            self.assertTrue(judge(book, told))
        else:
            self.assertIn(values, [("all",), ("none",)])
            self.exact(told, rule if values == ("all",) else None)
        for number in TRIED:
            wanted = values == ("all",) or values == ("one", number)
            self.assertEqual(judge(book, put(rule, place, index, number)), wanted, (book, rule, place, index, number))
        return values[0]

    def test_by_all_trees_of_all_that_can_be_left(self):
        met = {"all": 0, "one": 0, "none": 0}
        for book in SOME_BOOKS:
            for rule in rules_of(book[1], 1, "mended"):
                for place, index in spots(book[1]):
                    met[self.check(book, rule, place, index, plain.fits)] += 1
        self.assertGreater(min(met.values()), 100)

    def test_greater_books(self):
        met = set()
        for book in (WIDE, BOTH, *GREAT_BOOKS):
            for rule in rules_of(book[1], 1, "greater")[5:]:
                for place, index in spots(book[1])[::3]:
                    met.add(self.check(book, rule, place, index, fits))
        self.assertEqual(met, {"all", "one", "none"})

    def test_what_was_changed_is_mended(self):
        for book in (RING, STAR, WIDE, BOTH):
            rule = (FOUR,) * book[1]
            for place, index in spots(book[1]):
                broken = put(rule, place, index, (22, 7))
                self.exact(values_for(book, broken, place, index), ("one", FOUR[index]))
                self.exact(mended(book, broken, place, index), rule)
                self.assertIn((place, index), mending_spots(book, broken))

    def test_a_rule_that_fits_is_told_itself(self):
        for book in (RING, LONE, BOTH):
            rule = (FOUR,) * book[1]
            for place, index in spots(book[1]):
                self.exact(mended(book, rule, place, index), rule)
            self.exact(mending_spots(book, rule), tuple(spots(book[1])))

    def test_nothing_mends_where_all_brackets_fail(self):
        self.exact(mending_spots(RING, LOOSE), ())
        for place, index in spots(3):
            self.exact(values_for(RING, LOOSE, place, index), ("none",))

    def test_all_spots(self):
        for book in (*SOME_BOOKS, WIDE):
            for rule in rules_of(book[1], 1, "spots"):
                wanted = tuple(spot for spot in spots(book[1]) if values_for(book, rule, *spot) != ("none",))
                self.exact(mending_spots(book, rule), wanted)

    def test_edges(self):
        self.exact(mending_spots((2, 0, ()), ()), ())
        for book in ((2, 2, ()), (3, 2, ((1, 0), (0, 1)))):
            for place, index in spots(2):
                self.exact(values_for(book, ODD[1:], place, index), ("all",))
                self.exact(mended(book, ODD[1:], place, index), ODD[1:])
            self.exact(mending_spots(book, ODD[1:]), tuple(spots(2)))

    def test_refused_in_order(self):
        for call in (values_for, mended):
            for bad in BAD_RULES:
                self.refused(NotUsable, refusal("rule"), call, RING, bad, 0, 0)
                self.refused(NotUsable, refusal("rule"), call, RING, bad, 9, 9)
            for bad in BAD_PLACES:
                self.refused(NotUsable, refusal("place"), call, RING, ODD, bad, 0)
                self.refused(NotUsable, refusal("place"), call, RING, ODD, bad, 9)
            for bad in (4, -1, True, False, None, "0", (0,), [0], 10 ** 59):
                self.refused(NotUsable, refusal("index"), call, RING, ODD, 0, bad)
            self.refused(NotUsable, refusal("place"), call, (2, 0, ()), (), 0, 0)
        for bad in BAD_RULES:
            self.refused(NotUsable, refusal("rule"), mending_spots, RING, bad)


if __name__ == "__main__":
    unittest.main()
