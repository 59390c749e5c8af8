"""The guarantees, over small books of each prime [11]."""

import itertools
import unittest
from fractions import Fraction

from cutorclose.books import beside, checks_of
from cutorclose.brackets import bracket, pair_gap
from cutorclose.doubling import rowed, twinned
from cutorclose.downchecker import lets_down
from cutorclose.downpapers import down_paper
from cutorclose.fitchecker import lets_fit
from cutorclose.fitpapers import fit_paper
from cutorclose.fitting import clash_of, fits, worth_of
from cutorclose.holdings import first_untied
from cutorclose.leavechecker import lets_left
from cutorclose.leavepapers import leave_paper
from cutorclose.leavings import pairs_of, rings_of, stars_of
from cutorclose.letters import tuples_sum, words_sum
from cutorclose.lotsums import lot_sum, tied_rule
from cutorclose.merging import merged_alike, merged_in_row
from cutorclose.mendings import values_for
from cutorclose.partings import parts_of
from cutorclose.quotients import times
from cutorclose.rulekinds import rule_of_checks
from cutorclose.sumchecker import lets_sum
from cutorclose.sumpapers import sum_paper
from cutorclose.tieclasses import Tied
from cutorclose.twins import are_alike, are_in_row
from cutorclose.tyings import tie_of
from tests import plain
from tests.support import FOUR, GREAT, RULE_BOOKS, WIDE, Case, quotient, quotients, rules_of
from tests.test_letters import fractions, letters_of

CASES = [(book, rule) for book in RULE_BOOKS for rule in rules_of(book[1], 1, "guarantees")]


class First(Case):
    def test_fitting_by_equations(self):
        met = {True: 0, False: 0}
        for book, rule in CASES:
            gaps = [pair_gap(rule, *lot) for lot in pairs_of(book)]
            for lot, index in [(lot, 2) for lot in rings_of(book)] + [(lot, 3) for lot in stars_of(book)]:
                gaps += [times(bracket(rule, *[place for place in lot if place != third]), rule[third][index]) for third in lot]
            fit = all(gap == (0, 1) for gap in gaps)
            self.assertEqual(plain.fits(book, rule), fit)
            self.exact(fits(book, rule), fit)
            met[fit] += 1
            if not fit:
                _, closed, cut, first, second = clash_of(book, rule)
                left, rest = plain.left(book, closed, cut), plain.without(rule, closed + cut)
                self.assertIn(left[1], (2, 3))
                self.assertNotEqual(plain.worth_by(left, rest, first), plain.worth_by(left, rest, second))
        self.assertGreater(min(met.values()), 300)


class Second(Case):
    def test_what_can_be_left_and_parts(self):
        for book in RULE_BOOKS:
            parts = plain.parts(book)
            for lot in itertools.combinations(range(book[1]), 2):
                self.exact(lot in pairs_of(book), any(set(lot) <= set(part) for part in parts))
            for lot in itertools.combinations(range(book[1]), 3):
                left = lot in rings_of(book) or lot in stars_of(book)
                self.exact(left, any(set(lot) <= set(part) for part in parts))


class Third(Case):
    def test_rules_without_noughts(self):
        met = {True: 0, False: 0}
        for book, rule in CASES:
            if not plain.noughtless(book, rule):
                continue
            held = True
            for part in parts_of(book):
                if len(part) > 2:
                    tie = tie_of(rule, part)
                    held = held and tie is not None
                    self.assertTrue(tie is None or "any" not in tie)
                elif len(part) == 2:
                    held = held and pair_gap(rule, *part) == (0, 1)
            self.exact(fits(book, rule), held)
            met[held] += 1
        self.assertGreater(min(met.values()), 50)


class Fourth(Case):
    def test_a_tie_that_holds_at_all_places(self):
        met = 0
        for book, rule in CASES:
            tie = tie_of(rule, tuple(range(book[1])))
            if tie is not None:
                one = Tied.of(rule)
                self.exact(fits(book, rule), True)
                self.exact(worth_of(book, rule), one(book))
                self.assertEqual(plain.tree_worths(book, rule), {Fraction(*one(book))})
                met += 1
        self.assertGreater(met, 300)

    def test_sums_of_the_checks(self):
        for book, rule in CASES[::2]:
            for u, v in (((2, 1), (1, 1)), ((0, 1), (-1, 2)), ((0, 1), (0, 1)), ((1, 3), (5, 1))):
                pairs = tuple(four[:2] for four in rule)
                its = tuple((cut, closed) for closed, cut in pairs)
                self.exact(lot_sum(checks_of(book), its, (v, u)), lot_sum(book, pairs, (u, v)))
                wanted = plain.tie_sum(plain.checks(book), tuple((y, x, x, y) for x, y in pairs), Fraction(*v), Fraction(*u))
                self.exact(lot_sum(book, pairs, (u, v)), quotient(wanted))

    def test_fitting_the_checks(self):
        for book, rule in CASES:
            its = tuple((y, x, Y, X) for x, y, X, Y in rule)
            self.exact(rule_of_checks(rule), its)
            self.exact(fits(checks_of(book), its), fits(book, rule))
            self.assertEqual(plain.fits(plain.checks(book), its), plain.fits(book, rule))


class Fifth(Case):
    def test_books_side_by_side(self):
        met = 0
        for book, rule in CASES[::3]:
            for prime, size, rows in ((book[0], 1, ((1,),)), (book[0], 1, ()), (book[0], 2, ((1, 1),))):
                other, its = (prime, size, rows), (FOUR,) * size
                if fits(book, rule):
                    both = beside(book, other)
                    self.exact(fits(both, rule + its), True)
                    self.exact(worth_of(both, rule + its), times(worth_of(book, rule), worth_of(other, its)))
                    met += 1
        self.assertGreater(met, 300)

    def test_two_places_made_one(self):
        met = 0
        for book in RULE_BOOKS:
            if book[1] > 3:
                continue
            for place in range(book[1]):
                for double, merge, judge in ((twinned, merged_alike, are_alike), (rowed, merged_in_row, are_in_row)):
                    more = double(book, place)
                    if judge(more, place, place + 1):
                        for rule in [each for each in rules_of(more[1], 1, "made one") if plain.fits(more, each)]:
                            new, its = merge(more, rule, place, place + 1)
                            self.exact(new, book)
                            self.exact(fits(new, its), True)
                            self.assertEqual(plain.tree_worths(new, its), plain.tree_worths(more, rule))
                            met += 1
        self.assertGreater(met, 300)


class Sixth(Case):
    def test_words_and_tuples_of_words(self):
        for book in RULE_BOOKS:
            for letters in letters_of(book[1], 1, "sixth"):
                its = fractions(letters)
                pairs = tuple(quotients((a - b, b)) for a, b in its)
                for many in range(4):
                    if len(plain.words(book)) ** many > 400:
                        continue
                    told = lot_sum(book, pairs, ((book[0] ** many, 1), (1, 1)))
                    self.exact(told, quotient(Fraction(plain.tuples_sum(book, its, many))))
                    self.exact(told, tuples_sum(book, letters, many))
                    if many == 1:
                        self.exact(told, words_sum(book, letters))


class Seventh(Case):
    def test_values_that_make_a_rule_fit(self):
        met = {"all": 0, "one": 0, "none": 0}
        for book, rule in CASES[::5]:
            for place, index in itertools.product(range(book[1]), range(4)):
                told = values_for(book, rule, place, index)
                met[told[0]] += 1
                for value in {quotient(Fraction(each)) for each in (0, 1, -2, Fraction(7, 3))} | set(told[1:]):
                    four = (*rule[place][:index], value, *rule[place][index + 1:])
                    fit = plain.fits(book, (*rule[:place], four, *rule[place + 1:]))
                    self.assertEqual(fit, told == ("all",) or told == ("one", value))
        self.assertGreater(min(met.values()), 50)

    def test_what_an_accepted_paper_states(self):
        met = {"fits": 0, "clash": 0, "sums": 0, "down": 0, "held": 0}
        # WIDE does not come down.
        for book, rule in (*CASES[::2], *[(WIDE, rule) for rule in rules_of(4, 3, "papers of WIDE")]):
            fit, worths = plain.fits(book, rule), plain.tree_worths(book, rule)
            self.exact(lets_fit(book, rule, fit_paper(book, rule)), fit)
            met["fits" if fit else "clash"] += 1
            if first_untied(book, rule) is None:
                self.assertEqual(worths, {Fraction(*lets_sum(book, rule, sum_paper(book, rule)))})
                met["sums"] += 1
            paper = down_paper(book, rule)
            worth = lets_down(book, rule, paper)
            met[paper[0]] += 1
            self.assertEqual({end[1] > 0 for end in plain.ends(book)}, {paper[0] == "held"})
            if worth is not None and fit:
                self.assertEqual(worths, {Fraction(*worth)})
        self.assertGreater(min(met.values()), 20)

    def test_what_a_paper_of_what_can_be_left_states(self):
        judges = {"pair": plain.is_pair, "ring": plain.is_ring, "star": plain.is_star}
        for book in RULE_BOOKS:
            for many in (2, 3):
                for lot in itertools.combinations(range(book[1]), many):
                    word = lets_left(book, lot, leave_paper(book, lot))
                    if word == "apart":
                        told = [plain.closings(book, lot, judge) for judge in judges.values()]
                        self.assertEqual(told, [[], [], []])
                    else:
                        self.assertNotEqual(plain.closings(book, lot, judges[word]), [])

    def test_long_quotients_are_exact(self):
        # Numbers of sixty figures at all of eight places.
        pair = ((GREAT, GREAT - 1), (GREAT - 2, GREAT - 4))
        tie = ((1, GREAT), (GREAT, 1))
        book = (2, 8, ((1, 0, 1, 0, 0, 0, 0, 0), (0, 1, 1, 0, 0, 0, 0, 0), (0, 0, 0, 1, 0, 0, 0, 1)))
        rule = tied_rule((pair,) * 8, tie)
        worth = worth_of(book, rule)
        self.exact(worth, lot_sum(book, (pair,) * 8, tie))
        self.exact(worth, quotient(plain.tie_sum(book, rule, Fraction(*tie[0]), Fraction(*tie[1]))))
        self.exact(worth, quotient(plain.worth_by(book, rule, (7, 2, 5, 0, 1, 3, 6, 4))))


if __name__ == "__main__":
    unittest.main()
