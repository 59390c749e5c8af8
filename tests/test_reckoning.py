"""Worths by orders, steps at a place, and what follows [9] [33] [37] [38] [39]."""

import itertools
import unittest
from fractions import Fraction

from cutorclose.books import beside, checks_of
from cutorclose.errors import NotUsable
from cutorclose.lots import kind_at
from cutorclose.quotients import multiplied, summed, times
from cutorclose.reckoning import order_worths, steps_at, worth_by
from cutorclose.rulekinds import rule_left, rule_of_checks
from cutorclose.takes import closed_at, cut_at
from tests import plain
from tests.support import (BAD_ORDERS, BAD_PLACES, BAD_RULES, BOTH, FOUR, GREAT_BOOKS, LONE, ODD, RING, RULE_BOOKS, STAR, WIDE, Case,
                           quotient, rules_of)

FIVE = (5, 5, ((1, 0, 1, 1, 1), (0, 1, 1, 2, 4)))
ALL = (3, 3, ((1, 0, 0), (0, 1, 0), (0, 0, 1)))
# Four numbers that tell each way of each place from all others.
PRIMES = tuple(tuple((p, 1) for p in row) for row in ((2, 3, 5, 7), (11, 13, 17, 19), (23, 29, 31, 37), (41, 43, 47, 53)))


def refusal(word):
    return {"word": word, "at": -1}


def orders(size):
    return list(itertools.permutations(range(size)))


def anew(order, gone):
    """The order without a place, the others counted anew."""
    return tuple(place - (place > gone) for place in order if place != gone)


class Worths(Case):
    def test_by_the_words_of_the_definition(self):
        for book in RULE_BOOKS:
            for rule in rules_of(book[1], 1):
                for order in orders(book[1])[::3]:
                    self.exact(worth_by(book, rule, order), quotient(plain.worth_by(book, rule, order)))

    def test_greater_books(self):
        for book in GREAT_BOOKS:
            for rule in rules_of(book[1], 1, "great"):
                for order in (tuple(range(book[1])), tuple(range(book[1]))[::-1]):
                    self.exact(worth_by(book, rule, order), quotient(plain.worth_by(book, rule, order)))

    def test_each_way_has_its_own_number(self):
        self.exact(worth_by((2, 2, ((1, 1),)), PRIMES[:2], (0, 1)), (2 * 19 + 3 * 17, 1))
        self.exact(worth_by((2, 2, ((1, 1),)), PRIMES[:2], (1, 0)), (11 * 7 + 13 * 5, 1))
        self.exact(worth_by(ALL, PRIMES[:3], (1, 2, 0)), (5 * 17 * 31, 1))
        self.exact(worth_by((3, 3, ()), PRIMES[:3], (2, 0, 1)), (7 * 19 * 37, 1))
        self.exact(worth_by(LONE, PRIMES, (3, 1, 0, 2)), (53 * 5 * (11 * 37 + 13 * 31), 1))

    def test_no_places(self):
        for prime in (2, 3, 5, 7):
            self.exact(worth_by((prime, 0, ()), (), ()), (1, 1))
            self.exact(order_worths((prime, 0, ()), ()), ((1, 1),))

    def test_noughts(self):
        nought = ((0, 1),) * 4
        for book in (RING, STAR, ALL, (2, 3, ())):
            self.exact(worth_by(book, (nought,) * 3, (1, 0, 2)), (0, 1))
            self.exact(order_worths(book, (nought,) * 3), ((0, 1),))

    def test_great_numbers(self):
        great = (10 ** 450 + 1, 10 ** 450)
        one, other = (10 ** 450 + 1) ** 2, 10 ** 900
        self.exact(worth_by((2, 2, ((1, 1),)), ((great,) * 4,) * 2, (0, 1)), quotient(2 * Fraction(one, other)))


class AllOrders(Case):
    def test_all_different_worths(self):
        for book in RULE_BOOKS:
            for rule in rules_of(book[1], 1, "orders"):
                wanted = sorted({plain.worth_by(book, rule, order) for order in orders(book[1])})
                self.exact(order_worths(book, rule), tuple(quotient(each) for each in wanted))

    def test_five_places(self):
        for rule in rules_of(5, 1):
            wanted = sorted({Fraction(*worth_by(FIVE, rule, order)) for order in orders(5)})
            self.exact(order_worths(FIVE, rule), tuple(quotient(each) for each in wanted))

    def test_ascending_as_quotients_are_compared(self):
        rule = (((1, 3), (-1, 2), (2, 1), (1, 7)), ((1, 1), (1, 5), (-3, 1), (1, 2)), ((0, 1), (5, 3), (1, 9), (-2, 1)))
        worths = order_worths(RING, rule)
        self.assertGreater(len(worths), 2)
        self.assertEqual([Fraction(*one) for one in worths], sorted(Fraction(*one) for one in worths))
        self.assertNotEqual(list(worths), sorted(worths))


class Steps(Case):
    def test_by_kind(self):
        for book in (*RULE_BOOKS, *GREAT_BOOKS):
            rule = rules_of(book[1], 1, "steps")[0]
            for place in range(book[1]):
                closed, cut, alone, idle = rule[place]
                rest = rule_left(rule, (place,))
                wanted = {"idle": ((idle, cut_at(book, (place,)), rest),), "alone": ((alone, closed_at(book, (place,)), rest),),
                          "ordinary": ((closed, closed_at(book, (place,)), rest), (cut, cut_at(book, (place,)), rest))}
                self.exact(steps_at(book, rule, place), wanted[plain.kind(book, place)])

    def test_as_the_definition_has_them(self):
        for book in RULE_BOOKS:
            rule = rules_of(book[1], 1, "ways")[1]
            for place in range(book[1]):
                wanted = tuple((quotient(number), left, rest) for number, left, rest in plain.ways(book, rule, place))
                self.exact(steps_at(book, rule, place), wanted)

    def test_one_place(self):
        self.exact(steps_at((2, 1, ()), (FOUR,), 0), (((2, 1), (2, 0, ()), ()),))
        self.exact(steps_at((7, 1, ((1,),)), (FOUR,), 0), (((3, 1), (7, 0, ()), ()),))


class Refused(Case):
    def test_in_order(self):
        for bad in BAD_RULES:
            self.refused(NotUsable, refusal("rule"), worth_by, RING, bad, (0, 1, 2))
            self.refused(NotUsable, refusal("rule"), worth_by, RING, bad, None)
            self.refused(NotUsable, refusal("rule"), steps_at, RING, bad, 0)
            self.refused(NotUsable, refusal("rule"), steps_at, RING, bad, 9)
            self.refused(NotUsable, refusal("rule"), order_worths, RING, bad)
        for bad in BAD_ORDERS:
            self.refused(NotUsable, refusal("order"), worth_by, RING, ODD, bad)
        for bad in BAD_PLACES:
            self.refused(NotUsable, refusal("place"), steps_at, RING, ODD, bad)

    def test_no_places(self):
        nothing = (2, 0, ())
        self.refused(NotUsable, refusal("rule"), worth_by, nothing, (FOUR,), ())
        self.refused(NotUsable, refusal("rule"), worth_by, nothing, [], ())
        self.refused(NotUsable, refusal("order"), worth_by, nothing, (), (0,))
        self.refused(NotUsable, refusal("order"), worth_by, nothing, (), [])
        self.refused(NotUsable, refusal("place"), steps_at, nothing, (), 0)
        self.refused(NotUsable, refusal("rule"), order_worths, nothing, None)


class WhatFollows(Case):
    def test_the_sum_over_the_steps_of_the_first_place(self):
        for book in RULE_BOOKS:
            if book[1] > 0:
                for rule in rules_of(book[1], 1, "sum"):
                    for order in orders(book[1])[::5]:
                        rest = anew(order[1:], order[0])
                        told = [times(number, worth_by(left, its, rest)) for number, left, its in steps_at(book, rule, order[0])]
                        self.exact(worth_by(book, rule, order), summed(told))

    def test_idle_and_lone_places_exchanged_with_their_neighbours(self):
        met = 0
        for book in (*RULE_BOOKS, *GREAT_BOOKS):
            size = book[1]
            rule = rules_of(size, 1, "exchanged")[0]
            for order, at in itertools.product(orders(min(size, 4))[::5], range(size - 1)):
                order = (*order, *range(4, size))
                if [kind_at(book, place) for place in order[at:at + 2]] != ["ordinary", "ordinary"]:
                    other = (*order[:at], order[at + 1], order[at], *order[at + 2:])
                    self.exact(worth_by(book, rule, order), worth_by(book, rule, other))
                    met += 1
        self.assertGreater(met, 100)

    def test_ordinary_places_exchanged_can_differ(self):
        self.assertNotEqual(worth_by(RING, ODD, (0, 1, 2)), worth_by(RING, ODD, (0, 2, 1)))

    def test_books_side_by_side(self):
        for one, other in itertools.product(RULE_BOOKS[::11], repeat=2):
            if one[0] == other[0]:
                size = one[1] + other[1]
                rule = rules_of(size, 1, "beside")[0]
                for order in (tuple(range(size)), tuple(range(size))[::-1], tuple(sorted(range(size), key=lambda k: (k % 3, -k)))):
                    first = worth_by(one, rule[:one[1]], tuple(k for k in order if k < one[1]))
                    second = worth_by(other, rule[one[1]:], tuple(k - one[1] for k in order if k >= one[1]))
                    self.exact(worth_by(beside(one, other), rule, order), multiplied([first, second]))

    def test_checks(self):
        for book in RULE_BOOKS:
            for rule in rules_of(book[1], 1, "checks"):
                for order in orders(book[1])[::5]:
                    self.exact(worth_by(checks_of(book), rule_of_checks(rule), order), worth_by(book, rule, order))
        rule = rules_of(6, 1)[0]
        self.exact(worth_by(checks_of(BOTH), rule_of_checks(rule), (5, 1, 0, 2, 4, 3)), worth_by(BOTH, rule, (5, 1, 0, 2, 4, 3)))
        self.exact(order_worths(checks_of(WIDE), rule_of_checks(rule[:4])), order_worths(WIDE, rule[:4]))


if __name__ == "__main__":
    unittest.main()
