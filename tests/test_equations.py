"""Pair gaps, brackets, equations, and what follows [8] [10] [43] to [46]."""

import itertools
import unittest
from fractions import Fraction

from cutorclose.books import checks_of
from cutorclose.brackets import bracket, pair_gap
from cutorclose.equations import equation_gap, equations_of, failing
from cutorclose.errors import NotUsable
from cutorclose.leavings import pairs_of, rings_of, stars_of
from cutorclose.partings import parts_of
from cutorclose.quotients import minus, times
from cutorclose.rulekinds import rule_of_checks
from cutorclose.tyings import tie_of
from tests import plain
from tests.support import (BAD_PLACES, BAD_RULES, BOTH, FOUR, GREAT, GREAT_BOOKS, NO_RULES, ODD, ODD_VALUES, RING, RULE_BOOKS, STAR, WIDE,
                           Case, quotient, rules_of)
from tests.test_leavings import EIGHT

PRIMES = tuple(tuple((p, 1) for p in row) for row in ((2, 3, 5, 7), (11, 13, 17, 19), (23, 29, 31, 37)))
NOUGHT = (0, 1)

# What is no equation of three places.
NO_EQUATIONS = (
    *ODD_VALUES, (), ("pair",), ("pair", 0), ("pair", 0, 1, 2), ("ring", 0, 1), ("star", 0, 1), ("ring", 0, 1, 2, 0), ("star", 0),
    ("ring",),
    ("Pair", 0, 1), ("pairs", 0, 1), (None, 0, 1), (True, 0, 1), (("pair",), 0, 1), (["pair"], 0, 1), (0, 1), (0, 1, 2), ("", 0, 1),
    # Places in their order, different, and integers.
    ("pair", 1, 0), ("pair", 0, 0), ("pair", 0, 3), ("pair", -1, 0), ("pair", 0, True), ("pair", False, 1), ("pair", None, 1),
    ("pair", 0, "1"),
    ("pair", (0,), 1), ("pair", [0], [1]), ("pair", 0, GREAT), ["pair", 0, 1], ("pair", (0, 1)),
    ("ring", 1, 0, 2), ("ring", 0, 1, 1), ("ring", 0, 1, 0), ("ring", 0, 0, 1), ("ring", 0, 1, 3), ("ring", 0, 1, True),
    ("ring", 0, 2, True),
    ("ring", 0, 1, None), ("ring", 0, 1, [2]), ("star", 2, 1, 0), ("star", 0, 2, 2), ("star", 1, 2, False), ("star", 0, 1, -1),
    ("rings", 0, 1, 2), ("Ring", 0, 1, 2), (None, 0, 1, 2), (["star"], 0, 1, 2), (0, 1, 2, 3), (True, 0, 1, 2), ("", 0, 1, 2),
    ["ring", 0, 1, 2], ("star", (0, 1, 2)), ("pair", 0, 1, None), ("ring", 0, 2, 0), ("star", 1, 2, 1),
)


def refusal(word):
    return {"word": word, "at": -1}


def wanted_equations(book):
    """All equations of a book, by what can be left of it by the tests' own reckoning."""
    found = set()
    for many, word, judge in ((2, "pair", plain.is_pair), (3, "ring", plain.is_ring), (3, "star", plain.is_star)):
        for lot in itertools.combinations(range(book[1]), many):
            if plain.closings(book, lot, judge):
                found |= {(word, *order) for order in itertools.permutations(lot) if order[0] < order[1]}
    return tuple(sorted(found))


def wanted_gap(rule, equation):
    word, e, f, *rest = equation
    if word == "pair":
        return plain.pair_gap(rule, e, f)
    return plain.bracket(rule, e, f) * Fraction(*rule[rest[0]][2 if word == "ring" else 3])


class GapsAndBrackets(Case):
    def test_by_their_definition(self):
        for size in (2, 3, 4):
            for rule in rules_of(size, 6, "gaps"):
                for e, f in itertools.permutations(range(size), 2):
                    self.exact(pair_gap(rule, e, f), quotient(plain.pair_gap(rule, e, f)))
                    self.exact(bracket(rule, e, f), quotient(plain.bracket(rule, e, f)))

    def test_each_number_in_its_own_spot(self):
        self.exact(pair_gap(PRIMES, 0, 1), (2 * 19 + 3 * 17 - 11 * 7 - 13 * 5, 1))
        self.exact(bracket(PRIMES, 0, 1), (2 * 19 - 11 * 7 + 3 * 11 - 13 * 2, 1))
        self.exact(pair_gap(PRIMES, 2, 0), (23 * 7 + 29 * 5 - 2 * 37 - 3 * 31, 1))
        self.exact(bracket(PRIMES, 2, 0), (23 * 7 - 2 * 37 + 29 * 2 - 3 * 23, 1))

    def test_refused_in_order(self):
        for call in (pair_gap, bracket):
            for bad in NO_RULES:
                self.refused(NotUsable, refusal("rule"), call, bad, 0, 1)
                self.refused(NotUsable, refusal("rule"), call, bad, 0, 0)
            for bad in BAD_PLACES:
                self.refused(NotUsable, refusal("one"), call, ODD, bad, bad)
                self.refused(NotUsable, refusal("one"), call, ODD, bad, 0)
                self.refused(NotUsable, refusal("other"), call, ODD, 0, bad)
            for place in range(3):
                self.refused(NotUsable, refusal("other"), call, ODD, place, place)
            self.refused(NotUsable, refusal("one"), call, (), 0, 1)
            self.refused(NotUsable, refusal("other"), call, (FOUR,), 0, 1)


class Equations(Case):
    def test_by_what_can_be_left(self):
        for book in (*RULE_BOOKS, BOTH):
            self.exact(equations_of(book), wanted_equations(book))

    def test_greater_books(self):
        for book in (*GREAT_BOOKS, *EIGHT):
            equations = equations_of(book)
            self.assertEqual(list(equations), sorted(set(equations)))
            self.exact(tuple(each[1:] for each in equations if each[0] == "pair"), pairs_of(book))
            for word, lots in (("ring", rings_of(book)), ("star", stars_of(book))):
                wanted = sorted((*(place for place in lot if place != last), last) for lot in lots for last in lot)
                self.assertEqual([each[1:] for each in equations if each[0] == word], wanted)

    def test_edges(self):
        for book in ((2, 0, ()), (3, 4, ()), (5, 2, ((1, 0), (0, 1))), (7, 1, ((1,),)), (2, 4, ((1, 0, 0, 0), (0, 0, 1, 0)))):
            self.exact(equations_of(book), ())
            for rule in rules_of(book[1], 1):
                self.exact(failing(book, rule), ())
        self.exact(equations_of((2, 2, ((1, 1),))), (("pair", 0, 1),))
        self.exact(equations_of(STAR)[3:], (("star", 0, 1, 2), ("star", 0, 2, 1), ("star", 1, 2, 0)))

    def test_gaps(self):
        for rule in rules_of(4, 6, "equations"):
            for equation in equations_of(WIDE):
                self.exact(equation_gap(rule, equation), quotient(wanted_gap(rule, equation)))
        self.exact(equation_gap(PRIMES, ("ring", 0, 1, 2)), times(bracket(PRIMES, 0, 1), (31, 1)))
        self.exact(equation_gap(PRIMES, ("star", 0, 2, 1)), times(bracket(PRIMES, 0, 2), (19, 1)))
        self.exact(equation_gap(PRIMES, ("ring", 1, 2, 0)), times(bracket(PRIMES, 1, 2), (5, 1)))
        self.exact(equation_gap(PRIMES, ("pair", 1, 2)), pair_gap(PRIMES, 1, 2))
        # Any equation of the rule's places, whatever can be left of a book.
        self.exact(equation_gap(ODD, ("star", 0, 1, 2)), NOUGHT)

    def test_failing(self):
        met = 0
        for book in (*RULE_BOOKS, BOTH):
            for rule in rules_of(book[1], 1, "failing"):
                wanted = tuple(each for each in wanted_equations(book) if wanted_gap(rule, each) != 0)
                self.exact(failing(book, rule), wanted)
                met += len(wanted) > 1
        self.assertGreater(met, 50)
        for book in GREAT_BOOKS:
            for rule in rules_of(book[1], 1, "failing"):
                self.exact(failing(book, rule), tuple(each for each in equations_of(book) if wanted_gap(rule, each) != 0))

    def test_refused(self):
        for bad in NO_RULES:
            self.refused(NotUsable, refusal("rule"), equation_gap, bad, ("pair", 0, 1))
            self.refused(NotUsable, refusal("rule"), equation_gap, bad, None)
        for bad in BAD_RULES:
            self.refused(NotUsable, refusal("rule"), failing, RING, bad)
        for bad in NO_EQUATIONS:
            with self.subTest(bad=bad):
                self.refused(NotUsable, refusal("equation"), equation_gap, ODD, bad)
        self.refused(NotUsable, refusal("equation"), equation_gap, (), ("pair", 0, 1))
        self.refused(NotUsable, refusal("equation"), equation_gap, (FOUR, FOUR), ("ring", 0, 1, 2))


class WhatFollows(Case):
    def pairs(self):
        for book in RULE_BOOKS:
            for rule in rules_of(book[1], 1, "follows"):
                for e, f in itertools.permutations(range(book[1]), 2):
                    yield rule, e, f

    def test_both_change_their_sign(self):
        for rule, e, f in self.pairs():
            self.exact(pair_gap(rule, f, e), minus(NOUGHT, pair_gap(rule, e, f)))
            self.exact(bracket(rule, f, e), minus(NOUGHT, bracket(rule, e, f)))

    def test_nought_by_a_tie(self):
        met = 0
        for rule, e, f in self.pairs():
            if tie_of(rule, tuple(sorted((e, f)))) is not None:
                self.exact((pair_gap(rule, e, f), bracket(rule, e, f)), (NOUGHT, NOUGHT))
                met += 1
        self.assertGreater(met, 100)

    def test_when_both_are_nought(self):
        told = set()
        for rule, e, f in self.pairs():
            (x_e, y_e, X_e, Y_e), (x_f, y_f, X_f, Y_f) = rule[e], rule[f]
            first = times(y_e, minus(X_f, x_f)) == times(y_f, minus(X_e, x_e))
            second = times(x_e, minus(Y_f, y_f)) == times(x_f, minus(Y_e, y_e))
            nought = pair_gap(rule, e, f) == bracket(rule, e, f) == NOUGHT
            self.exact(first and second, nought)
            told.add((first, second))
        self.assertEqual(len(told), 4)

    def test_checks(self):
        words = {"pair": "pair", "ring": "star", "star": "ring"}
        for rule, e, f in self.pairs():
            other = rule_of_checks(rule)
            self.exact(pair_gap(other, e, f), pair_gap(rule, e, f))
            self.exact(bracket(other, e, f), minus(pair_gap(rule, e, f), bracket(rule, e, f)))
        for book in (*RULE_BOOKS, *GREAT_BOOKS):
            exchanged = sorted((words[each[0]], *each[1:]) for each in equations_of(book))
            self.exact(equations_of(checks_of(book)), tuple(exchanged))

    def test_a_part_by_itself_is_in_no_equation(self):
        for book in (*RULE_BOOKS, *GREAT_BOOKS, *EIGHT):
            places = {place for each in equations_of(book) for place in each[1:]}
            self.assertEqual(places, {place for part in parts_of(book) if len(part) > 1 for place in part})


if __name__ == "__main__":
    unittest.main()
