"""Papers of steps, and their checker with its whole list [63] [70]."""

import unittest
from fractions import Fraction

from cutorclose.downchecker import lets_down
from cutorclose.downpapers import down_paper
from cutorclose.downs import comes_down
from cutorclose.errors import InvalidPaper, NotUsable
from cutorclose.fitting import fits, worth_of
from tests import plain
from tests.support import (BAD_RULES, BOTH, FOUR, GREAT_BOOKS, LONE, ODD, ODD_VALUES, RING, RULE_BOOKS, STAR, WIDE, Case, quotient, refusal,
                           rules_of)
from tests.test_downs import HELD, NO_STEPS, NOT_STANDING, PAIR, SIX
from tests.test_leavings import EIGHT
from tests.test_rules import NO_QUOTIENTS

SAME = (FOUR,) * 3
MANY = (FOUR,) * 6
ROW, TWO, LAST = ("in row", 0, 1), ("alike", 0, 1), ("take", 0)
DOWN = ("down", (ROW, TWO, LAST), (14, 1))
EMPTY = (2, 0, ())

# The entry, a book, a rule, and what is no paper of it.
FAULTS = (
    *[(("shape", -1), RING, SAME, thing) for thing in ODD_VALUES],
    *[(("shape", -1), RING, SAME, thing) for thing in (
        (), ("down",), ("held",), ("down", (ROW, TWO, LAST)), ("down", [ROW, TWO, LAST], (14, 1)), (*DOWN, None), list(DOWN),
        ("Down", *DOWN[1:]), ("downs", *DOWN[1:]), (None, *DOWN[1:]), (True, *DOWN[1:]), (("down",), *DOWN[1:]), (["down"], *DOWN[1:]),
        ("down", None, (14, 1)), ("down", ROW), ("down", "steps", (14, 1)), ("held", (), (1, 1)), ("held", (), ()), ("held", None),
        ("held", []), ("held", [ROW]), ("held", "take"), ["held", ()], ("Held", ()), ("hold", ()), "held", "down", (("held", ()),),
        ("down", (14, 1), (ROW, TWO, LAST)))],
    *[(("shape", -1), RING, SAME, ("down", (ROW, TWO, LAST), worth)) for worth in (*NO_QUOTIENTS, 14, (28, 2), (14, 1, 1), "14")],
    # No quotient ahead of all steps.
    (("shape", -1), RING, SAME, ("down", (None,), None)), (("shape", -1), WIDE, MANY[:4], ("held", (None,), None)),
    # No step by form, for either word, and then one that does not stand.
    *[(("step", 0), RING, SAME, ("down", (step,), (14, 1))) for step in NO_STEPS],
    *[(("step", 0), RING, SAME, ("held", (step, ROW))) for step in NO_STEPS],
    *[(("step", 2), RING, SAME, ("down", (ROW, TWO, step), (14, 1))) for step in NO_STEPS],
    *[(("stands", 0), RING, SAME, ("down", (step, None), (14, 1))) for step in NOT_STANDING],
    *[(("stands", 0), RING, SAME, ("held", (step,))) for step in NOT_STANDING],
    (("stands", 1), RING, SAME, ("down", (ROW, LAST), (9, 1))), (("stands", 1), RING, SAME, ("down", (ROW, ("alike", 1, 2)), (9, 1))),
    (("stands", 3), RING, SAME, ("down", (ROW, TWO, LAST, LAST), (14, 1))),
    (("stands", 0), EMPTY, (), ("down", (LAST,), (1, 1))), (("stands", 0), EMPTY, (), ("held", (LAST,))),
    (("stands", 0), WIDE, MANY[:4], ("held", (TWO,))), (("stands", 0), WIDE, MANY[:4], ("down", (TWO,), (23, 1))),
    # All of one step before the next one.
    (("stands", 1), RING, SAME, ("down", (ROW, LAST, None), (14, 1))), (("step", 1), RING, SAME, ("down", (ROW, None, LAST), (14, 1))),
    # Places left, ahead of the worth.
    (("left", -1), RING, SAME, ("down", (), (14, 1))), (("left", -1), RING, SAME, ("down", (ROW, TWO), (14, 1))),
    (("left", -1), RING, SAME, ("down", (ROW, TWO), (1, 1))), (("left", -1), WIDE, MANY[:4], ("down", (), (23, 1))),
    (("left", -1), LONE, MANY[:4], ("down", (LAST,), (3, 1))),
    (("worth", -1), RING, SAME, ("down", (ROW, TWO, LAST), (15, 1))), (("worth", -1), RING, SAME, ("down", (ROW, TWO, LAST), (-14, 1))),
    (("worth", -1), RING, SAME, ("down", (ROW, TWO, LAST), (0, 1))), (("worth", -1), EMPTY, (), ("down", (), (0, 1))),
    (("worth", -1), LONE, MANY[:4], ("down", (LAST, TWO, LAST, LAST), (6, 1))),
    # No places left, or a step that still stands.
    (("none", -1), EMPTY, (), ("held", ())), (("none", -1), RING, SAME, ("held", (ROW, TWO, LAST))),
    (("stands", -1), RING, SAME, ("held", ())), (("stands", -1), RING, SAME, ("held", (ROW, TWO))),
    (("stands", -1), LONE, MANY[:4], ("held", ())), (("stands", -1), (2, 1, ()), MANY[:1], ("held", ())),
)


class Papers(Case):
    def test_that_the_checker_accepts_them(self):
        met = {"down": 0, "held": 0}
        for book in (*RULE_BOOKS, *GREAT_BOOKS, *EIGHT, *HELD):
            for rule in rules_of(book[1], 1, "down papers")[::2]:
                paper = down_paper(book, rule)
                self.assertIs(type(paper), tuple)
                told = lets_down(book, rule, paper)
                self.exact(paper[0], "down" if comes_down(book) else "held")
                self.exact(told, paper[2] if paper[0] == "down" else None)
                met[paper[0]] += 1
        self.assertGreater(min(met.values()), 10)

    def test_edges(self):
        self.exact(down_paper(EMPTY, ()), ("down", (), (1, 1)))
        for book in HELD:
            self.exact(down_paper(book, (FOUR,) * book[1]), ("held", ()))
        self.exact(lets_down(LONE, MANY[:4], down_paper(LONE, MANY[:4])), (3 * 5 * 2, 1))

    def test_what_is_accepted_is_true(self):
        for book in RULE_BOOKS:
            for rule in rules_of(book[1], 1, "true")[::2]:
                told = lets_down(book, rule, down_paper(book, rule))
                if told is not None and fits(book, rule):
                    self.exact(told, worth_of(book, rule))
                    self.assertEqual(plain.tree_worths(book, rule), {Fraction(*told)})

    def test_the_rule_is_refused_first(self):
        for bad in BAD_RULES:
            self.refused(NotUsable, refusal("rule"), down_paper, RING, bad)
            self.refused(NotUsable, refusal("rule"), lets_down, RING, bad, DOWN)
            self.refused(NotUsable, refusal("rule"), lets_down, RING, bad, None)


class Checker(Case):
    def test_each_entry_in_order(self):
        for (word, at), book, rule, thing in FAULTS:
            with self.subTest(book=book, rule=rule, thing=thing):
                self.refused(InvalidPaper, {"word": word, "at": at}, lets_down, book, rule, thing)

    def test_papers_by_others(self):
        for steps in ((ROW, TWO, LAST), (ROW, ROW, LAST), (("in row", 0, 2), TWO, LAST), (("in row", 1, 2), ROW, LAST)):
            self.exact(lets_down(RING, SAME, ("down", steps, (14, 1))), (14, 1))
        for first in (0, 1):
            self.exact(lets_down((2, 2, ((1, 0),)), ODD[1:], ("down", (("take", first), LAST), (6, 1))), (6, 1))
        self.exact(lets_down(EMPTY, (), ("down", (), (1, 1))), (1, 1))
        for book in HELD:
            self.exact(lets_down(book, (FOUR,) * book[1], ("held", ())), None)
        # Behind steps, too.
        more = (3, 6, ((1, 0, 0, 0, 0, 0), (0, 0, 1, 0, 1, 1), (0, 0, 0, 1, 1, 2)))
        self.exact(lets_down(more, MANY, ("held", (LAST, LAST))), None)
        self.exact(lets_down(more, MANY, ("held", (("take", 1), LAST))), None)
        self.refused(InvalidPaper, {"word": "stands", "at": -1}, lets_down, more, MANY, ("held", (LAST,)))
        self.refused(InvalidPaper, {"word": "left", "at": -1}, lets_down, more, MANY, ("down", (LAST, LAST), (6, 1)))

    def test_of_a_rule_that_does_not_fit(self):
        # Such a paper is accepted, by whatever order of two places; nothing is said of a worth then.
        worths = set()
        for first in (("in row", 0, 1), ("in row", 0, 2), ("in row", 1, 2)):
            book, rule = plain.merged(RING, ODD, *first)
            for word in ("alike", "in row"):
                left = plain.merged(book, rule, word, 0, 1)
                factor = plain.behind(*left, LAST)[0]
                self.exact(lets_down(RING, ODD, ("down", (first, (word, 0, 1), LAST), quotient(factor))), quotient(factor))
                worths.add(factor)
        self.assertGreater(len(worths), 1)

    def test_the_same_for_all_rows_of_steps(self):
        for book in (RING, STAR, LONE, PAIR, (3, 3, ((1, 0, 2),)), BOTH):
            rule = MANY[:book[1]]
            self.check_all(book, rule, book, rule, (), Fraction(1))

    def check_all(self, book, rule, left, rest, steps, factor):
        """Check papers of all rows of steps, but where these are many, with the one factor to which all come."""
        if left[1] == 0:
            self.exact(lets_down(book, rule, ("down", steps, quotient(factor))), quotient(factor))
            return factor
        told = set()
        for step in plain.standing(left)[:3]:
            number, new, its = plain.behind(left, rest, step)
            told.add(self.check_all(book, rule, new, its, (*steps, step), factor * number))
        (one,) = told
        return one

    def test_by_name(self):
        self.exact(lets_down(thing=DOWN, rule=SAME, book=RING), (14, 1))
        self.exact(lets_down(SIX, thing=("held", ()), rule=MANY), None)


if __name__ == "__main__":
    unittest.main()
