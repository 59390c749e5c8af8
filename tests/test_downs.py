"""Steps down [63] [67] [68] [69]."""

import random
import unittest
from fractions import Fraction

from cutorclose.books import beside, checks_of
from cutorclose.doubling import rowed, twinned
from cutorclose.downs import after_step, brought_down, comes_down, stands, worth_by_downs
from cutorclose.errors import NotUsable
from cutorclose.fitting import fits, worth_of
from cutorclose.partings import parts_of
from cutorclose.quotients import times
from cutorclose.takes import cut_at, kept_by
from cutorclose.twins import are_alike, are_in_row
from tests import plain
from tests.support import (BAD_RULES, BOTH, FOUR, GREAT_BOOKS, LONE, ODD, ODD_VALUES, RING, RULE_BOOKS, SMALL_BOOKS, STAR, WIDE, Case,
                           quotient, refusal, rules_of)
from tests.test_leavings import EIGHT

SAME = (FOUR,) * 3
PAIR = (2, 2, ((1, 1),))

# No two places of it are alike or in a row, though it has but one digit other than 0.
SIX = (2, 6, ((1, 0, 0, 1, 1, 0), (0, 1, 0, 1, 0, 1), (0, 0, 1, 0, 1, 1)))
HELD = [WIDE, SIX, GREAT_BOOKS[2], EIGHT[0], (5, 4, ((1, 0, 1, 1), (0, 1, 1, 2))), (7, 4, ((1, 0, 1, 1), (0, 1, 1, 3)))]

# What is no step, by its form.
NO_STEPS = (*ODD_VALUES, (), ("take",), ("take", 0, 1), ("take", None), ("take", True), ("take", False), ("take", -1), ("take", "0"),
            ("take", (0,)), ["take", 0], ("Take", 0), ("take ", 0), (("take", 0),), ("cut", 0), "take", (0, "take"), ("alike",),
            ("alike", 0), ("alike", 0, 1, 2), ("alike", 0, True), ("alike", None, 1), ("alike", (0, 1)), ["alike", 0, 1], ("in row", 0),
            ("in row", 0, 1, 2), ("in row", False, 1), ("in row", 0, "1"), ("in_row", 0, 1), ("inrow", 0, 1), ("in row", -1, 0),
            (None, 0), (True, 0), (["take"], 0), (("take",), 0))

# What has the form of a step but does not stand in RING.
NOT_STANDING = (("take", 0), ("take", 2), ("take", 3), ("take", 10 ** 59), ("alike", 0, 1), ("alike", 1, 2), ("alike", 0, 3),
                ("in row", 1, 0), ("in row", 2, 1), ("in row", 0, 0), ("in row", 2, 2), ("in row", 0, 3), ("in row", 3, 4))


def forms(size):
    """All steps by form with numbers up to one above the places."""
    numbers = range(size + 1)
    steps = [("take", place) for place in numbers]
    return steps + [(word, one, other) for word in ("alike", "in row") for one in numbers for other in numbers]


def walk(book, rule, dice):
    """Steps chosen at will until none stands, by the tests' own reckoning: as brought_down tells them."""
    steps, factor = [], Fraction(1)
    while plain.standing(book):
        step = dice.choice(plain.standing(book))
        number, book, rule = plain.behind(book, rule, step)
        steps.append(step)
        factor *= number
    return tuple(steps), factor, book, rule


class Steps(Case):
    def test_which_stand(self):
        for book in (*RULE_BOOKS, *GREAT_BOOKS):
            standing = plain.standing(book)
            for step in forms(book[1]):
                self.exact(stands(book, step), step in standing)

    def test_any_value(self):
        for book in (RING, STAR, PAIR, (2, 1, ()), (2, 1, ((1,),)), (3, 0, ())):
            for thing in NO_STEPS:
                self.exact(stands(book, thing), False)
        for step in NOT_STANDING:
            self.exact(stands(RING, step), False)
        self.exact(stands((2, 2, ()), ("take", True)), False)
        self.exact([stands(PAIR, (word, 0, 1)) for word in ("alike", "in row")], [True, True])
        self.exact([stands(PAIR, (word, 1, 0)) for word in ("alike", "in row")], [False, False])
        self.exact([stands((2, 2, ((1, 0),)), ("take", place)) for place in range(3)], [True, True, False])
        self.exact(stands((2, 2, ((1, 0), (0, 1))), ("alike", 0, 1)), False)

    def test_behind_a_step(self):
        met = {"take": 0, "alike": 0, "in row": 0}
        for book in (*RULE_BOOKS, *GREAT_BOOKS):
            for rule in rules_of(book[1], 1, "behind")[:4]:
                for step in plain.standing(book):
                    factor, left, rest = plain.behind(book, rule, step)
                    self.exact(after_step(book, rule, step), (quotient(factor), left, rest))
                    met[step[0]] += 1
        self.assertGreater(min(met.values()), 100)

    def test_idle_and_lone_places(self):
        four = ((2, 1), (3, 1), (5, 1), (7, 1))
        self.exact(after_step((5, 2, ((1, 0),)), (four, FOUR), ("take", 0)), ((5, 1), (5, 1, ()), (FOUR,)))
        self.exact(after_step((5, 2, ((1, 0),)), (FOUR, four), ("take", 1)), ((7, 1), (5, 1, ((1,),)), (FOUR,)))
        self.exact(after_step(LONE, (four, FOUR, FOUR, FOUR), ("take", 0)), ((5, 1), (2, 3, ((1, 1, 0),)), SAME))

    def test_refused_in_order(self):
        for bad in BAD_RULES:
            self.refused(NotUsable, refusal("rule"), after_step, RING, bad, ("in row", 0, 1))
            self.refused(NotUsable, refusal("rule"), after_step, RING, bad, None)
            self.refused(NotUsable, refusal("rule"), brought_down, RING, bad)
            self.refused(NotUsable, refusal("rule"), worth_by_downs, RING, bad)
            # Also where no step stands.
            for book in (HELD[2], (3, 0, ())):
                if bad != ():
                    self.refused(NotUsable, refusal("rule"), brought_down, book, bad)
                    self.refused(NotUsable, refusal("rule"), worth_by_downs, book, bad)
        for bad in (*NO_STEPS, *NOT_STANDING):
            self.refused(NotUsable, refusal("step"), after_step, RING, SAME, bad)


class Downs(Case):
    def check_down(self, book, rule):
        """Check brought_down and the worth by it, step by step; return how many places are left."""
        told = brought_down(book, rule)
        self.assertIs(type(told), tuple)
        steps, factor, end, rest = told
        self.assertIs(type(steps), tuple)
        product, left, its = Fraction(1), book, rule
        for step in steps:
            self.assertIn(step, plain.standing(left))
            number, left, its = plain.behind(left, its, step)
            product *= number
        self.exact((factor, end, rest), (quotient(product), left, its))
        self.assertEqual(plain.standing(end), ())
        self.assertEqual(len(steps) + end[1], book[1])
        self.exact(worth_by_downs(book, rule), factor if end[1] == 0 else None)
        self.exact(comes_down(book), end[1] == 0)
        return end[1]

    def test_small_and_great_books(self):
        met = {True: 0, False: 0}
        for book in (*RULE_BOOKS, *GREAT_BOOKS, *HELD):
            for rule in rules_of(book[1], 1, "down")[::3]:
                met[self.check_down(book, rule) == 0] += 1
        self.assertGreater(min(met.values()), 20)

    def test_books_that_do_not_come_down(self):
        for book in HELD:
            rule = (FOUR,) * book[1]
            self.exact(comes_down(book), False)
            self.exact(worth_by_downs(book, rule), None)
            self.exact(brought_down(book, rule), ((), (1, 1), book, rule))
            more = beside(beside((book[0], 1, ((1,),)), book), (book[0], 1, ()))
            if more[1] <= 8:
                self.exact(comes_down(more), False)
                self.exact(brought_down(more, (FOUR,) * more[1])[1:], ((6, 1), book, rule))

    def test_no_places(self):
        for prime in (2, 3, 5, 7):
            book = (prime, 0, ())
            self.exact((comes_down(book), worth_by_downs(book, ()), brought_down(book, ())), (True, (1, 1), ((), (1, 1), book, ())))

    def test_edges(self):
        self.exact(worth_by_downs((2, 2, ()), ODD[1:]), (4, 1))
        self.exact(worth_by_downs((2, 2, ((1, 0), (0, 1))), ODD[1:]), (12, 1))
        self.exact(worth_by_downs(LONE, (FOUR,) * 4), (3 * 5 * 2, 1))
        self.exact(worth_by_downs(RING, (((0, 1),) * 4,) * 3), (0, 1))
        self.exact([comes_down(book) for book in (RING, STAR, BOTH, LONE, PAIR)], [True] * 5)

    def test_a_rule_that_does_not_fit(self):
        # Whatever the rule is, the steps and the factor are told; the factor is no worth then.
        steps, factor, book, rule = brought_down(RING, ODD)
        self.exact((len(steps), book, rule), (3, (2, 0, ()), ()))
        self.exact(worth_by_downs(RING, ODD), factor)


class Consequences(Case):
    def test_one_place_less(self):
        for book in SMALL_BOOKS:
            for step in plain.standing(book):
                left, rest = after_step(book, (FOUR,) * book[1], step)[1:]
                self.exact((left[0], left[1], len(rest)), (book[0], book[1] - 1, book[1] - 1))

    def test_the_worth_is_the_factor_of_any_steps_times_that_of_the_rest(self):
        dice, met = random.Random("steps"), 0
        for book in (*RULE_BOOKS, *GREAT_BOOKS):
            for rule in rules_of(book[1], 1, "worth of steps"):
                if not fits(book, rule):
                    continue
                worth, left, rest, factor = worth_of(book, rule), book, rule, (1, 1)
                while plain.standing(left):
                    number, left, rest = after_step(left, rest, dice.choice(plain.standing(left)))
                    factor = times(factor, number)
                    self.exact(times(factor, worth_of(left, rest)), worth)
                    met += 1
                if comes_down(book):
                    self.exact(worth_by_downs(book, rule), worth)
        self.assertGreater(met, 500)

    def test_by_all_trees(self):
        for book in RULE_BOOKS:
            for rule in rules_of(book[1], 1, "trees of steps"):
                if comes_down(book) and plain.fits(book, rule):
                    self.assertEqual(plain.tree_worths(book, rule), {Fraction(*worth_by_downs(book, rule))})

    def test_all_parts_come_down_and_the_checks(self):
        for book in (*RULE_BOOKS, *GREAT_BOOKS, *HELD):
            parts = [cut_at(book, kept_by(book[1], part)) for part in parts_of(book)]
            self.exact(comes_down(book), all([comes_down(part) for part in parts]))
            self.exact(comes_down(book), comes_down(checks_of(book)))

    def test_whichever_steps_are_chosen(self):
        more = [twinned(WIDE, 1), rowed(WIDE, 2), twinned(rowed(WIDE, 0), 1), rowed(twinned(SIX, 5), 0), beside(WIDE, (3, 2, ((1, 2),)))]
        for book in (*RULE_BOOKS, *GREAT_BOOKS, *more):
            ends = plain.ends(book)
            self.assertEqual(len({end[1] for end in ends}), 1)
            end = brought_down(book, (FOUR,) * book[1])[2]
            self.assertIn(end, ends)
            if end[1] <= 6:
                self.assertEqual(len({plain.rank_kind(each) for each in ends}), 1)
        self.exact([comes_down(book) for book in more], [False] * 5)

    def test_steps_chosen_at_will(self):
        dice = random.Random("at will")
        for book in (*GREAT_BOOKS, *EIGHT[:2]):
            for rule in rules_of(book[1], 1, "at will")[:2]:
                for _ in range(3):
                    left = walk(book, rule, dice)[2]
                    self.exact(left[1] == 0, comes_down(book))

    def test_two_places_made_one(self):
        for book in (*RULE_BOOKS, *GREAT_BOOKS, twinned(WIDE, 1), rowed(SIX, 2)):
            for step in plain.standing(book):
                left = after_step(book, (FOUR,) * book[1], step)[1]
                self.exact(comes_down(left), comes_down(book))

    def test_a_pair_is_alike_and_in_a_row(self):
        # [72]: either step leads on to the same worth, the one place being alone behind the one, idle behind the other.
        for prime, digit in ((2, 1), (3, 2), (5, 3), (7, 6)):
            book = (prime, 2, ((1, digit),))
            self.exact((are_alike(book, 0, 1), are_in_row(book, 0, 1)), (True, True))
            for rule in rules_of(2, 3, "pairs"):
                alike, in_row = after_step(book, rule, ("alike", 0, 1)), after_step(book, rule, ("in row", 0, 1))
                self.exact((alike[1], in_row[1]), ((prime, 1, ((1,),)), (prime, 1, ())))
                if fits(book, rule):
                    self.exact(alike[2][0][2], worth_of(book, rule))
                    self.exact(in_row[2][0][3], worth_of(book, rule))


if __name__ == "__main__":
    unittest.main()
