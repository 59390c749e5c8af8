"""Fit [52]."""

import itertools
import unittest

from cutorclose.books import checks_of
from cutorclose.equations import equation_gap, equations_of, failing
from cutorclose.errors import InvalidPaper, NotUsable, Unlike
from cutorclose.fitclasses import Fit
from cutorclose.fitting import fits, worth_of
from cutorclose.rulekinds import rule_of_checks
from cutorclose.takes import left_by
from tests import plain
from tests.papers import PaperCase
from tests.support import (BAD_PLACES, BAD_RULES, BOTH, FOUR, LONE, ODD, ODD_VALUES, RING, RULE_BOOKS, STAR, WIDE, rules_of, splits)
from tests.test_bookchecker import FAULTS
from tests.test_equations import NO_EQUATIONS
from tests.test_lots import BAD_LOTS
from tests.test_ruleclasses import BAD_FOURS
from tests.test_rules import OTHER

CASES = [(book, rule) for book in (*RULE_BOOKS[::4], RING, STAR, WIDE, BOTH, LONE) for rule in rules_of(book[1], 1, "objects")]


def refusal(word):
    return {"word": word, "at": -1}


class Fits(PaperCase):
    def test_all_that_it_tells(self):
        for book, rule in CASES:
            one, its = Fit(book, rule), failing(book, rule)
            self.exact((one.form_now, one.rule_now, one.fits_now, one.failing_now), (book, rule, fits(book, rule), its))
            self.exact((len(one), list(one)), (len(its), list(its)))
            for equation in equations_of(book):
                self.exact(one[equation], equation_gap(rule, equation))
                self.exact(equation in one, equation in its)
                self.exact(list(equation) in one, False)

    def test_its_worth(self):
        for book, rule in CASES:
            if fits(book, rule):
                self.exact(Fit(book, rule)(), worth_of(book, rule))
            else:
                with self.assertRaises(Unlike) as caught:
                    Fit(book, rule)()
                self.check_clash(book, rule, caught.exception.clash)

    def test_values_refused(self):
        for word, at, thing in FAULTS:
            self.refused(InvalidPaper, {"word": word, "at": at}, Fit, thing, ODD)
            self.refused(InvalidPaper, {"word": word, "at": at}, Fit, thing, None)
        for bad in BAD_RULES:
            self.refused(NotUsable, refusal("rule"), Fit, RING, bad)
        self.refused(NotUsable, refusal("rule"), Fit, (2, 0, ()), None)

    def test_items_refused(self):
        one = Fit(RING, ODD)
        for bad in (*NO_EQUATIONS, ("star", 0, 1, 2), ("star", 1, 2, 0), ("pair", 0, 3)):
            self.refused(NotUsable, refusal("equation"), lambda: one[bad])
            self.exact(bad in one, False)
        # An equation of the places, but not of those that can be left so.
        for bad in (("pair", 0, 3), ("ring", 0, 1, 3), ("ring", 3, 4, 5), ("star", 0, 1, 2)):
            self.refused(NotUsable, refusal("equation"), lambda: Fit(BOTH, (FOUR,) * 6)[bad])
        self.exact(("pair", False, 2) in one, False)
        self.exact(("pair", 0, 2) in one, True)
        self.exact(("ring", 0, 1, 2) in one, False)

    def test_given(self):
        for book, rule in CASES[::5]:
            for place in range(book[1]):
                told = Fit(book, rule).given(place, OTHER)
                self.assertIs(type(told), Fit)
                self.exact((told.form_now, told.rule_now), (book, (*rule[:place], OTHER, *rule[place + 1:])))
                self.exact(told.failing_now, failing(book, told.rule_now))
        one = Fit(RING, ODD)
        for bad in BAD_PLACES:
            self.refused(NotUsable, refusal("place"), one.given, bad, None)
        for bad in BAD_FOURS:
            self.refused(NotUsable, refusal("four"), one.given, 0, bad)

    def test_left(self):
        for book, rule in CASES[::7]:
            for closed, cut in splits(book[1])[::2]:
                told = Fit(book, rule).left(closed, cut)
                self.assertIs(type(told), Fit)
                self.exact((told.form_now, told.rule_now), (left_by(book, closed, cut), plain.without(rule, closed + cut)))
        one = Fit(RING, ODD)
        for bad in BAD_LOTS:
            self.refused(NotUsable, refusal("closed"), one.left, bad, bad)
            self.refused(NotUsable, refusal("cut"), one.left, (0,), bad)
        self.refused(NotUsable, refusal("cut"), one.left, (0, 2), (1, 2))

    def test_checks(self):
        for book, rule in CASES:
            told = ~Fit(book, rule)
            self.assertIs(type(told), Fit)
            self.exact((told.form_now, told.rule_now), (checks_of(book), rule_of_checks(rule)))
            self.exact(told.fits_now, fits(book, rule))
            self.exact(~told == Fit(book, rule), True)

    def test_equal(self):
        for one, other in itertools.product(CASES[::11], repeat=2):
            self.exact(Fit(*one) == Fit(*other), one == other)
            self.exact(Fit(*one) != Fit(*other), one != other)
        self.exact(Fit(RING, ODD) == Fit(STAR, ODD), False)
        self.exact(Fit(RING, ODD) == Fit(RING, (FOUR,) * 3), False)
        for other in (*ODD_VALUES, RING, ODD, (RING, ODD)):
            self.exact(Fit(RING, ODD) == other, False)

    def test_by_name(self):
        one = Fit(rule=ODD, book=RING)
        self.exact(one.given(four=FOUR, place=2)(), (14, 1))
        self.exact(one.left(cut=(), closed=(1,)).failing_now, (("pair", 0, 1),))

    def test_no_places(self):
        one = Fit((5, 0, ()), ())
        self.exact((one(), len(one), list(one), one.fits_now, one.failing_now), ((1, 1), 0, [], True, ()))
        self.exact(one.left((), ()) == one, True)

    def test_never_changes(self):
        one = Fit(RING, ODD)
        before = (one.form_now, one.rule_now, one.fits_now, one.failing_now)
        for call in (lambda: one.given(2, FOUR), lambda: one.left((0,), ()), lambda: ~one, lambda: list(one).clear(),
                     lambda: one[("pair", 0, 1)], lambda: ("pair", 0, 1) in one, lambda: one == one, lambda: one.given(2, FOUR)()):
            call()
            self.exact((one.form_now, one.rule_now, one.fits_now, one.failing_now), before)
            self.exact((len(one), list(one)), (2, list(before[3])))
        for name in ("form_now", "rule_now", "fits_now", "failing_now"):
            with self.assertRaises(AttributeError):
                setattr(one, name, ())


if __name__ == "__main__":
    unittest.main()
