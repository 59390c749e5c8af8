"""Tied [10] [53] [61] [62]."""

import itertools
import unittest
from fractions import Fraction

from cutorclose.books import checks_of
from cutorclose.errors import NotUsable
from cutorclose.fitting import fits, worth_of
from cutorclose.lots import kind_at
from cutorclose.lotsums import lot_sum, tied_rule
from cutorclose.quotients import multiplied, plus, times
from cutorclose.takes import closed_at, cut_at, left_by
from cutorclose.tieclasses import Tied
from cutorclose.tyings import holds_at, tie_of
from tests import plain
from tests.support import (BAD_PLACES, BOTH, FOUR, GREAT, NO_RULES, ODD, ODD_VALUES, RING, RULE_BOOKS, WIDE, Case, lots_of,
                           quotient, refusal, rules_of, splits)
from tests.test_bookchecker import FAULTS
from tests.test_lots import BAD_LOTS
from tests.test_lotsums import BAD_PAIRS, NO_PAIRS, ONES, TIE, TIES, pairs_of

SOME_PAIRS = (((2, 1), (3, 1)), ((5, 1), (7, 1)), ((11, 2), (-13, 1)))
NOUGHT = (0, 1)


def tied_to(size, salt):
    """Some Tieds of a size."""
    return [Tied(pairs_of(rule), tie) for k, rule in enumerate(rules_of(size, 1, salt)) for tie in TIES[k::23]]


class Derived(Tied):
    """A Tied of a derived class."""


class Tellings(Case):
    def test_all_that_it_tells(self):
        for size in range(4):
            for rule in rules_of(size, 2, "tied"):
                for tie in TIES[::11]:
                    pairs = pairs_of(rule)
                    one, its = Tied(pairs, tie), tied_rule(pairs, tie)
                    self.exact((one.pairs_now, one.tie_now, one.rule_now), (pairs, tie, its))
                    self.exact((len(one), list(one)), (size, list(its)))
                    self.exact([one[place] for place in range(size)], list(its))
                    self.assertTrue(plain.tie_holds(its, Fraction(*tie[0]), Fraction(*tie[1]), range(size)))

    def test_its_sum(self):
        for book in RULE_BOOKS:
            for one in tied_to(book[1], "sum"):
                u, v = (Fraction(*each) for each in one.tie_now)
                self.exact(one(book), quotient(plain.tie_sum(book, one.rule_now, u, v)))

    def test_values_refused(self):
        for bad in (*BAD_PAIRS, *ODD_VALUES):
            self.refused(NotUsable, refusal("pairs"), Tied, bad, TIE)
            self.refused(NotUsable, refusal("pairs"), Tied, bad, None)
        for bad in NO_PAIRS:
            self.refused(NotUsable, refusal("tie"), Tied, ONES, bad)
            self.refused(NotUsable, refusal("tie"), Tied, (), bad)
        for bad in (("any", "any"), ((2, 1), "any"), (2, 1)):
            self.refused(NotUsable, refusal("tie"), Tied, ONES, bad)

    def test_places_refused(self):
        one = Tied(ONES, TIE)
        for bad in (*BAD_PLACES, (0, 1), slice(0, 2)):
            self.refused(NotUsable, refusal("place"), lambda: one[bad])
        self.refused(NotUsable, refusal("place"), lambda: Tied((), TIE)[0])

    def test_books_refused(self):
        one = Tied(ONES, TIE)
        for _, _, thing in FAULTS:
            self.refused(NotUsable, refusal("book"), one, thing)
        for bad in (WIDE, BOTH, (2, 2, ((1, 1),)), (2, 0, ()), (3, 4, ()), list(RING), (True, 3, ())):
            self.refused(NotUsable, refusal("book"), one, bad)
        self.refused(NotUsable, refusal("book"), Tied((), TIE), RING)

    def test_exchanged(self):
        told = Tied(SOME_PAIRS, ((2, 1), (3, 1))).exchanged()
        self.assertIs(type(told), Tied)
        self.exact(told.pairs_now, (((3, 1), (2, 1)), ((7, 1), (5, 1)), ((-13, 1), (11, 2))))
        self.exact(told.tie_now, ((3, 1), (2, 1)))

    def test_without(self):
        one = Tied(SOME_PAIRS, TIE)
        for lot in lots_of(3):
            told = one.without(lot)
            self.assertIs(type(told), Tied)
            self.exact((told.pairs_now, told.tie_now), (plain.without(SOME_PAIRS, lot), TIE))
        for bad in BAD_LOTS:
            self.refused(NotUsable, refusal("lot"), one.without, bad)
        self.refused(NotUsable, refusal("lot"), Tied((), TIE).without, (0,))
        self.exact(Tied((), TIE).without(()) == Tied((), TIE), True)

    def test_equal(self):
        ties = [Tied(pairs, tie) for pairs in (ONES, ONES[:2], (), SOME_PAIRS) for tie in (TIE, (TIE[1], TIE[0]))]
        for (j, one), (k, other) in itertools.product(enumerate(ties), repeat=2):
            self.exact(one == other, j == k)
            self.exact(one != other, j != k)
            self.exact(Derived(one.pairs_now, one.tie_now) == other, j == k)
            self.exact(one == Derived(other.pairs_now, other.tie_now), j == k)
        # One rule can be told by two ties, that differ where all numbers are noughts.
        none = ((NOUGHT, NOUGHT),) * 2
        self.exact(Tied(none, TIE).rule_now, Tied(none, (TIE[1], TIE[0])).rule_now)
        self.exact(Tied(none, TIE) == Tied(none, (TIE[1], TIE[0])), False)
        for other in (*ODD_VALUES, ONES, TIE, (ONES, TIE), ties[0].rule_now):
            self.exact(ties[0] == other, False)

    def test_by_name(self):
        one = Tied(tie=TIE, pairs=ONES)
        self.exact(one == Tied(ONES, TIE), True)
        self.exact(one(book=RING), (14, 1))
        self.exact(one.without(lot=(0,)).pairs_now, ONES[1:])
        self.exact(Tied.of(rule=(FOUR,) * 3) == one, True)

    def test_never_changes(self):
        one = Tied(SOME_PAIRS, TIE)
        before = (one.pairs_now, one.tie_now, one.rule_now, list(one), len(one))
        for call in (one.exchanged, lambda: one.without((0,)), lambda: one(RING), lambda: one[1], lambda: one == one,
                     lambda: list(one).clear(), lambda: one.exchanged().exchanged()):
            call()
            self.exact((one.pairs_now, one.tie_now, one.rule_now, list(one), len(one)), before)
        for name in ("pairs_now", "tie_now", "rule_now"):
            with self.assertRaises(AttributeError):
                setattr(one, name, ())


class Of(Case):
    def test_rules_with_a_tie_and_without(self):
        met = {True: 0, False: 0}
        for size in range(5):
            for rule in rules_of(size, 6, "of"):
                tie = tie_of(rule, tuple(range(size)))
                met[tie is None] += 1
                if tie is None:
                    self.refused(NotUsable, refusal("rule"), Tied.of, rule)
                    continue
                told = Tied.of(rule)
                self.assertIs(type(told), Tied)
                self.exact(told.rule_now, rule)
                self.exact(told.pairs_now, pairs_of(rule))
                self.exact(told.tie_now, tuple(NOUGHT if each == "any" else each for each in tie))
        self.assertGreater(min(met.values()), 50)

    def test_any(self):
        for four, tie in ((((1, 1), (0, 1), (1, 1), (5, 1)), (NOUGHT, (5, 1))), (((0, 1), (2, 1), (6, 1), (2, 1)), ((3, 1), NOUGHT)),
                          ((NOUGHT,) * 4, (NOUGHT, NOUGHT))):
            told = Tied.of((four,) * 2)
            self.exact((told.tie_now, told.rule_now), (tie, (four,) * 2))
        self.exact(Tied.of(()).tie_now, (NOUGHT, NOUGHT))
        self.exact(len(Tied.of(())), 0)
        self.exact(Tied.of((FOUR,)).tie_now, TIE)

    def test_rules_refused(self):
        for bad in (*NO_RULES, ODD, (((0, 1), (0, 1), (1, 1), (0, 1)),), *ODD_VALUES):
            self.refused(NotUsable, refusal("rule"), Tied.of, bad)


class Consequences(Case):
    def test_exchanged_twice_and_the_checks(self):
        for book in RULE_BOOKS:
            for one in tied_to(book[1], "checks"):
                self.exact(one.exchanged().exchanged() == one, True)
                self.exact(one.exchanged()(checks_of(book)), one(book))
                self.exact(one.exchanged()(plain.checks(book)), one(book))

    def test_closed_and_cut(self):
        for book in RULE_BOOKS:
            for one in tied_to(book[1], "ways"):
                for place in range(book[1]):
                    rest = one.without((place,))
                    closed, cut, alone, idle = one[place]
                    told = {"ordinary": plus(times(closed, rest(closed_at(book, (place,)))), times(cut, rest(cut_at(book, (place,))))),
                            "alone": times(alone, rest(closed_at(book, (place,)))), "idle": times(idle, rest(cut_at(book, (place,))))}
                    self.exact(one(book), told[kind_at(book, place)])

    def test_of_what_is_left(self):
        for book in RULE_BOOKS[::5]:
            for one in tied_to(book[1], "left")[::3]:
                for closed, cut in splits(book[1]):
                    left, rest = left_by(book, closed, cut), one.without(tuple(sorted(closed + cut)))
                    self.exact(rest.rule_now, plain.without(one.rule_now, closed + cut))
                    self.exact(rest(left), lot_sum(left, rest.pairs_now, rest.tie_now))
                    self.assertEqual(plain.tree_worths(left, rest.rule_now), {Fraction(*rest(left))})

    def test_the_sum_is_the_worth(self):
        # (G4): a rule at all whose places a tie holds fits, and the sum is its worth.
        for book in RULE_BOOKS:
            for one in tied_to(book[1], "worth"):
                self.assertTrue(holds_at(one.rule_now, one.tie_now, tuple(range(book[1]))))
                self.exact(fits(book, one.rule_now), True)
                self.exact(worth_of(book, one.rule_now), one(book))
                self.assertEqual(plain.tree_worths(book, one.rule_now), {Fraction(*one(book))})

    def test_no_places(self):
        for prime in (2, 3, 5, 7):
            self.exact(Tied((), TIE)((prime, 0, ())), (1, 1))
        self.exact(Tied((), TIE).exchanged() == Tied((), ((1, 1), (2, 1))), True)
        self.exact((len(Tied((), TIE)), list(Tied((), TIE)), Tied((), TIE).rule_now), (0, [], ()))

    def test_eight_places(self):
        book = (2, 8, ((1, 0, 0, 0, 0, 1, 1, 1), (0, 1, 0, 0, 1, 0, 1, 1), (0, 0, 1, 0, 1, 1, 0, 1), (0, 0, 0, 1, 1, 1, 1, 0)))
        one = Tied((((2, 1), (1, 1)),) * 8, TIE)
        self.exact(one(book), one.exchanged()(checks_of(book)))
        self.exact(one(book), quotient(plain.tie_sum(book, one.rule_now, Fraction(2), Fraction(1))))
        whole = multiplied([(GREAT, 1)] * 8)
        self.exact(Tied((((GREAT, 1), NOUGHT),) * 8, ((3, 1), (1, 1)))((2, 8, ())), whole)


if __name__ == "__main__":
    unittest.main()
