"""Ties: whether one holds, which one does [10] [53] [57]."""

import itertools
import unittest
from fractions import Fraction

from cutorclose.errors import NotUsable
from cutorclose.tyings import holds_at, tie_of, ties_of
from tests import plain
from tests.support import (BAD_RULES, BOTH, FOUR, GREAT_BOOKS, LONE, NO_RULES, ODD, RING, RULE_BOOKS, Case, four_by, lots_of,
                           quotient, quotients, rules_of)
from tests.test_lots import BAD_LOTS
from tests.test_lotsums import NO_PAIRS, TIE, TIES

# Fours with a nought for the closed number, for the cut one, for both.
NO_CLOSED = four_by(Fraction(0), Fraction(2), Fraction(3), Fraction(5))
NO_CUT = four_by(Fraction(2), Fraction(0), Fraction(3), Fraction(5))
NEITHER = ((0, 1),) * 4


def refusal(word):
    return {"word": word, "at": -1}


def wanted_tie(rule, lot):
    told = plain.tie(rule, lot)
    return told and tuple("any" if each is None else quotient(each) for each in told)


class Holding(Case):
    def test_by_its_definition(self):
        met = {True: 0, False: 0}
        for size in range(4):
            for rule in rules_of(size, 2, "holding"):
                for lot, tie in itertools.product(lots_of(size), TIES):
                    wanted = plain.tie_holds(rule, Fraction(*tie[0]), Fraction(*tie[1]), lot)
                    self.exact(holds_at(rule, tie, lot), wanted)
                    met[wanted] += 1
        self.assertGreater(min(met.values()), 500)

    def test_each_half(self):
        four = four_by(Fraction(2), Fraction(3), Fraction(5), Fraction(7))
        self.exact(holds_at((four,), ((5, 1), (7, 1)), (0,)), True)
        self.exact(holds_at((four,), ((5, 1), (6, 1)), (0,)), False)
        self.exact(holds_at((four,), ((4, 1), (7, 1)), (0,)), False)
        self.exact(holds_at((four,), ((7, 1), (5, 1)), (0,)), False)
        self.exact(holds_at((four, ODD[2]), ((5, 1), (7, 1)), (0, 1)), False)
        self.exact(holds_at((ODD[2], four), ((5, 1), (7, 1)), (1,)), True)

    def test_no_places(self):
        for rule, tie in itertools.product(((), ODD), TIES):
            self.exact(holds_at(rule, tie, ()), True)


class Ties(Case):
    def test_by_their_definition(self):
        met = {"none": 0, "any": 0, "only": 0}
        for size in range(5):
            for rule in rules_of(size, 4, "ties"):
                for lot in lots_of(size):
                    tie = tie_of(rule, lot)
                    self.exact(tie, wanted_tie(rule, lot))
                    met["none" if tie is None else "any" if "any" in tie else "only"] += 1
        self.assertGreater(min(met.values()), 100)

    def test_just_these_quotients_hold(self):
        for rule in rules_of(2, 3, "just"):
            for lot in lots_of(2):
                tie = tie_of(rule, lot)
                for u, v in TIES:
                    wanted = tie is not None and tie[0] in ("any", u) and tie[1] in ("any", v)
                    self.exact(holds_at(rule, (u, v), lot), wanted)

    def test_where_each_will_do(self):
        self.exact(tie_of((NO_CLOSED,), (0,)), ((3, 1), "any"))
        self.exact(tie_of((NO_CUT,), (0,)), ("any", (5, 1)))
        self.exact(tie_of((NEITHER,), (0,)), ("any", "any"))
        self.exact(tie_of((NEITHER, NO_CUT), (0, 1)), ("any", (5, 1)))
        self.exact(tie_of((NO_CLOSED, NEITHER, NO_CUT), (0, 1, 2)), ((3, 1), (5, 1)))
        self.exact(tie_of((NO_CLOSED, NO_CLOSED), (0, 1)), ((3, 1), "any"))
        self.exact(tie_of((NEITHER,) * 8, tuple(range(8))), ("any", "any"))
        for rule in ((), ODD):
            self.exact(tie_of(rule, ()), ("any", "any"))

    def test_where_none_holds(self):
        one, nought = (1, 1), (0, 1)
        # The closed number is not the alone one though the cut one is nought, and the like; two that differ.
        self.exact(tie_of((((2, 1), nought, (3, 1), one),), (0,)), None)
        self.exact(tie_of(((nought, (2, 1), one, (3, 1)),), (0,)), None)
        self.exact(tie_of(((nought, nought, nought, one),), (0,)), None)
        self.exact(tie_of(((nought, nought, one, nought),), (0,)), None)
        self.exact(tie_of((FOUR, (one, one, (3, 1), (3, 1))), (0, 1)), None)
        self.exact(tie_of((NO_CUT, ((2, 1), nought, (2, 1), (11, 1))), (0, 1)), None)

    def test_great_numbers(self):
        u, v = Fraction(10 ** 200 + 1, 10 ** 199), Fraction(-1, 10 ** 200)
        rule = (four_by(Fraction(3), Fraction(7, 2), u, v), four_by(Fraction(1), Fraction(-2), u, v))
        self.exact(tie_of(rule, (0, 1)), quotients((u, v)))

    def test_of_each_part(self):
        for book in (*RULE_BOOKS, *GREAT_BOOKS):
            for rule in rules_of(book[1], 1, "parts"):
                self.exact(ties_of(book, rule), tuple(wanted_tie(rule, part) for part in plain.parts(book)))
        self.exact(ties_of((2, 0, ()), ()), ())
        self.exact(ties_of(LONE, (NO_CUT, FOUR, FOUR, NEITHER)), (("any", (5, 1)), TIE, ("any", "any")))
        self.exact(ties_of(BOTH, (*ODD, FOUR, FOUR, FOUR)), (None, TIE))


class Refused(Case):
    def test_in_order(self):
        for bad in NO_RULES:
            self.refused(NotUsable, refusal("rule"), holds_at, bad, TIE, ())
            self.refused(NotUsable, refusal("rule"), holds_at, bad, None, None)
            self.refused(NotUsable, refusal("rule"), tie_of, bad, ())
            self.refused(NotUsable, refusal("rule"), tie_of, bad, None)
        for bad in (*NO_PAIRS, ("any", "any")):
            self.refused(NotUsable, refusal("tie"), holds_at, ODD, bad, ())
            self.refused(NotUsable, refusal("tie"), holds_at, ODD, bad, None)
        for bad in BAD_LOTS:
            self.refused(NotUsable, refusal("lot"), holds_at, ODD, TIE, bad)
            self.refused(NotUsable, refusal("lot"), tie_of, ODD, bad)
        self.refused(NotUsable, refusal("lot"), tie_of, (), (0,))
        for bad in BAD_RULES:
            self.refused(NotUsable, refusal("rule"), ties_of, RING, bad)


if __name__ == "__main__":
    unittest.main()
