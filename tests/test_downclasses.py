"""Going [63] [71] [72]."""

import itertools
import random
import unittest

from cutorclose.downclasses import Going
from cutorclose.downs import after_step, brought_down, comes_down
from cutorclose.errors import NotUsable
from cutorclose.fitting import fits, worth_of
from cutorclose.quotients import times
from tests import plain
from tests.support import (BAD_RULES, BOTH, FOUR, GREAT_BOOKS, LONE, ODD, ODD_VALUES, RING, RULE_BOOKS, STAR, WIDE, Case, quotient, refusal,
                           rules_of)
from tests.test_bookchecker import FAULTS
from tests.test_downs import HELD, NO_STEPS, NOT_STANDING, PAIR, forms, walk

SAME = (FOUR,) * 3
ROW, TWO, LAST = ("in row", 0, 1), ("alike", 0, 1), ("take", 0)
DONE = (ROW, TWO, LAST)
EMPTY = (2, 0, ())


class Derived(Going):
    """A Going of a derived class."""


def state(one):
    """All that a Going tells of itself."""
    return (one.begun_now, one.steps_now, one.factor_now, one.book_now, one.rule_now, one.is_done, len(one), list(one), one.can_stand())


class Goings(Case):
    def test_all_that_it_tells(self):
        dice = random.Random("goings")
        for book in (*RULE_BOOKS[::2], *GREAT_BOOKS):
            for rule in rules_of(book[1], 1, "goings")[::3]:
                steps = walk(book, rule, dice)[0]
                for many in range(len(steps) + 1):
                    factor, left, rest = (1, 1), book, rule
                    for step in steps[:many]:
                        number, left, rest = plain.behind(left, rest, step)
                        factor = times(factor, quotient(number))
                    self.exact(state(Going(book, rule, *steps[:many])),
                               ((book, rule), steps[:many], factor, left, rest, left[1] == 0, many, list(steps[:many]),
                                plain.standing(left)))

    def test_refused_in_order(self):
        for _, _, thing in FAULTS:
            self.refused(NotUsable, refusal("book"), Going, thing, SAME)
            self.refused(NotUsable, refusal("book"), Going, thing, None, None)
            self.refused(NotUsable, refusal("book"), Going.of, thing, None)
        for bad in BAD_RULES:
            self.refused(NotUsable, refusal("rule"), Going, RING, bad)
            self.refused(NotUsable, refusal("rule"), Going, RING, bad, None)
            self.refused(NotUsable, refusal("rule"), Going.of, RING, bad)
        for bad in (*NO_STEPS, *NOT_STANDING):
            self.refused(NotUsable, {"word": "steps", "at": 0}, Going, RING, SAME, bad)
            self.refused(NotUsable, {"word": "steps", "at": 0}, Going, RING, SAME, bad, None)
            self.refused(NotUsable, {"word": "steps", "at": 0}, Going, RING, SAME, bad, ROW)
        for bad in (*NO_STEPS, ("take", 0), ("alike", 1, 0), ("alike", 0, 2), ("in row", 1, 2)):
            self.refused(NotUsable, {"word": "steps", "at": 1}, Going, RING, SAME, ROW, bad, LAST)
        for bad in (*NO_STEPS, ("take", 0)):
            self.refused(NotUsable, {"word": "steps", "at": 3}, Going, RING, SAME, *DONE, bad)
        self.refused(NotUsable, {"word": "steps", "at": 0}, Going, EMPTY, (), LAST)

    def test_a_step_more(self):
        for book in (*RULE_BOOKS[::3], BOTH, WIDE):
            rule = (FOUR,) * book[1]
            one = Going(book, rule)
            for step in forms(book[1]):
                can = step in plain.standing(book)
                self.exact(one.can_add(step), can)
                if can:
                    told = one + step
                    self.assertIs(type(told), Going)
                    self.exact(told == Going(book, rule, step), True)
                    self.exact((told.begun_now, told.steps_now), ((book, rule), (step,)))
                    self.exact((told.factor_now, told.book_now, told.rule_now), after_step(book, rule, step))
                else:
                    self.refused(NotUsable, refusal("step"), lambda: one + step)

    def test_steps_refused(self):
        for bad in (*NO_STEPS, *NOT_STANDING):
            one = Going(RING, SAME)
            self.exact(one.can_add(bad), False)
            self.refused(NotUsable, refusal("step"), lambda: one + bad)
        done = Going(RING, SAME, *DONE)
        for bad in (*NO_STEPS, ROW, TWO, LAST):
            self.exact(done.can_add(bad), False)
            self.refused(NotUsable, refusal("step"), lambda: done + bad)

    def test_back(self):
        one = Going(RING, SAME, *DONE)
        for many in (2, 1, 0):
            one = one.back()
            self.assertIs(type(one), Going)
            self.exact(one == Going(RING, SAME, *DONE[:many]), True)
        self.refused(NotUsable, refusal("steps"), one.back)
        self.refused(NotUsable, refusal("steps"), Going(EMPTY, ()).back)

    def test_contains(self):
        one = Going(LONE, (FOUR,) * 4, LAST, ("in row", 0, 1), ("take", 1))
        self.exact([step in one for step in (LAST, ("in row", 0, 1), ("take", 1), ("alike", 0, 1), ("take", 2), ("in row", 0, 2))],
                   [True, True, True, False, False, False])
        for thing in (*NO_STEPS, ("take", False), ("take", True), ("in row", False, True), ["take", 0]):
            self.exact(thing in one, False)
        self.exact(LAST in Going(LONE, (FOUR,) * 4), False)

    def test_equal(self):
        ones = [(RING, SAME), (RING, SAME, ROW), (RING, SAME, ("in row", 0, 2)), (RING, ODD), (RING, ODD, ROW), (STAR, SAME),
                (STAR, SAME, TWO), (STAR, SAME, TWO, TWO), (EMPTY, ()), ((3, 0, ()), ())]
        for (j, one), (k, other) in itertools.product(enumerate(ones), repeat=2):
            self.exact(Going(*one) == Going(*other), j == k)
            self.exact(Going(*one) != Going(*other), j != k)
            self.exact(Derived(*one) == Going(*other), j == k)
            self.exact(Going(*one) == Derived(*other), j == k)
        # The same end by other steps is not equal.
        for thing in (*ODD_VALUES, RING, (RING, SAME), ((RING, SAME), (ROW,)), (ROW,)):
            self.exact(Going(RING, SAME, ROW) == thing, False)

    def test_of(self):
        for book in (*RULE_BOOKS, *GREAT_BOOKS, *HELD):
            rule = rules_of(book[1], 1, "of")[0]
            told = Going.of(book, rule)
            self.assertIs(type(told), Going)
            self.exact(told.begun_now, (book, rule))
            self.exact((told.steps_now, told.factor_now, told.book_now, told.rule_now), brought_down(book, rule))
            self.exact(told.can_stand(), ())
            self.exact(told.is_done, comes_down(book))
        self.exact(Going.of(EMPTY, ()) == Going(EMPTY, ()), True)

    def test_edges(self):
        one = Going((5, 0, ()), ())
        self.exact(state(one), (((5, 0, ()), ()), (), (1, 1), (5, 0, ()), (), True, 0, [], ()))
        self.exact(Going(PAIR, SAME[:2]).can_stand(), (("alike", 0, 1), ("in row", 0, 1)))
        self.exact(Going(WIDE, (FOUR,) * 4).can_stand(), ())
        self.exact(Going(WIDE, (FOUR,) * 4).is_done, False)
        self.exact(Going(LONE, (FOUR,) * 4).can_stand(), (("alike", 1, 2), ("in row", 1, 2), ("take", 0), ("take", 3)))
        self.exact(Going(LONE, (FOUR,) * 4, LAST, ("take", 2)).factor_now, (6, 1))

    def test_by_name(self):
        one = Going(rule=SAME, book=RING)
        self.exact(one == Going(RING, SAME), True)
        self.exact(one.can_add(step=ROW), True)
        self.exact(Going.of(rule=SAME, book=RING).is_done, True)

    def test_never_changes(self):
        one = Going(RING, SAME, ROW)
        before = state(one)
        for call in (lambda: one + TWO, one.back, one.can_stand, lambda: one.can_add(TWO), lambda: list(one).clear(), lambda: ROW in one,
                     lambda: one == one, lambda: (one + TWO) + LAST, lambda: Going.of(RING, SAME)):
            call()
            self.exact(state(one), before)
        self.refused(NotUsable, refusal("step"), lambda: one + LAST)
        self.exact(state(one), before)
        for name in ("begun_now", "steps_now", "factor_now", "book_now", "rule_now", "is_done"):
            with self.assertRaises(AttributeError):
                setattr(one, name, ())


class Consequences(Case):
    def test_either_step_of_a_pair(self):
        met = 0
        for prime, digit in ((2, 1), (3, 1), (3, 2), (5, 4), (7, 3)):
            book = (prime, 2, ((1, digit),))
            for rule in rules_of(2, 3, "either"):
                alike, in_row = Going(book, rule, ("alike", 0, 1)), Going(book, rule, ("in row", 0, 1))
                self.exact((alike.book_now, in_row.book_now), ((prime, 1, ((1,),)), (prime, 1, ())))
                if fits(book, rule):
                    self.exact((alike + LAST).factor_now, worth_of(book, rule))
                    self.exact((in_row + LAST).factor_now, worth_of(book, rule))
                    met += 1
        self.assertGreater(met, 20)

    def test_done_of_a_rule_that_fits(self):
        met = 0
        for book in (*RULE_BOOKS, *GREAT_BOOKS):
            for rule in rules_of(book[1], 1, "done"):
                told = Going.of(book, rule)
                if told.is_done and fits(book, rule):
                    self.exact(told.factor_now, worth_of(book, rule))
                    met += 1
        self.assertGreater(met, 300)


if __name__ == "__main__":
    unittest.main()
