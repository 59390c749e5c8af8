"""Papers of sums, and their checker with its whole list [53] [60]."""

import itertools
import unittest
from fractions import Fraction

from cutorclose.errors import InvalidPaper, NotUsable, Untied
from cutorclose.partsums import worth_by_parts
from cutorclose.sumchecker import lets_sum
from cutorclose.sumpapers import sum_paper
from tests import plain
from tests.support import (BAD_RULES, BOTH, FOUR, GREAT_BOOKS, LONE, ODD, ODD_VALUES, RING, RULE_BOOKS, STAR, WIDE, Case, quotient,
                           rules_of)
from tests.test_fitchecker import lots_of_lots
from tests.test_fitting import FLAT, NOUGHTS
from tests.test_leavings import EIGHT
from tests.test_lotsums import NO_PAIRS, TIE
from tests.test_rules import NO_QUOTIENTS

SAME = (FOUR,) * 3
MANY = (FOUR,) * 6
PAIR = (2, 2, ((1, 1),))
OTHER_TIE = ((1, 1), (1, 1))
WHOLE = ((0, 1, 2), TIE, (14, 1))

# The entry, a book, a rule, and what is no paper of it.
FAULTS = (
    *[(("shape", -1), RING, SAME, thing) for thing in ODD_VALUES],
    *[(("shape", -1), RING, SAME, thing) for thing in (
        (), ("sums",), ("sums", None), ("sums", [WHOLE]), ("sums", (WHOLE,), ()), ["sums", (WHOLE,)], ("sum", (WHOLE,)),
        ("Sums", ()), (None, ()),
        (True, ()), (("sums",), ()), (["sums"], ()), "sums", ((WHOLE,), "sums"), ("parts", ()))],
    # A block that is no triple of its kinds.
    *[(("block", 0), RING, SAME, ("sums", (block,))) for block in
      (None, 0, (), WHOLE[:2], (*WHOLE, None), list(WHOLE), "abc", True, ((0, 1, 2), (14, 1), TIE))],
    *[(("block", 0), RING, SAME, ("sums", ((lot, TIE, (14, 1)),))) for lot in
      (None, 0, [0, 1, 2], (0, 1, 3), (2, 1, 0), (0, 0), (0, True, 2), "012", (-1, 0), ((0,),))],
    *[(("block", 0), RING, SAME, ("sums", (((0, 1, 2), tie, (14, 1)),))) for tie in (*NO_PAIRS[1:], ("any", "any"), False, "None")],
    *[(("block", 0), RING, SAME, ("sums", (((0, 1, 2), TIE, worth),))) for worth in NO_QUOTIENTS],
    (("block", 1), BOTH, MANY, ("sums", (WHOLE, ((3, 4, 6), TIE, (9, 1))))),
    # A place of a block ahead, before the tie.
    (("again", 1), BOTH, MANY, ("sums", (WHOLE, WHOLE))),
    (("again", 1), BOTH, MANY, ("sums", (WHOLE, ((2, 3), OTHER_TIE, (0, 1))))),
    (("again", 2), LONE, MANY[:4], ("sums", (((0,), None, (3, 1)), ((1, 2), TIE, (5, 1)), ((0, 3), None, (6, 1))))),
    # A tie that does not hold, or None where it may not stand, before the worth.
    (("tie", 0), RING, ODD, ("sums", (WHOLE,))), (("tie", 0), RING, SAME, ("sums", (((0, 1, 2), OTHER_TIE, (8, 1)),))),
    (("tie", 0), RING, SAME, ("sums", (((0, 1, 2), ((2, 1), (0, 1)), (0, 1)),))),
    (("tie", 0), RING, SAME, ("sums", (((0, 1, 2), None, (14, 1)),))),
    (("tie", 0), BOTH, MANY, ("sums", (((0, 1, 2, 3, 4, 5), None, (126, 1)),))),
    (("tie", 0), PAIR, (FOUR, ODD[2]), ("sums", (((0, 1), None, (5, 1)),))),
    (("tie", 0), PAIR, (FOUR, ODD[2]), ("sums", (((0, 1), TIE, (5, 1)),))),
    (("tie", 1), BOTH, SAME + ODD, ("sums", (WHOLE, ((3, 4, 5), TIE, (9, 1))))),
    (("tie", 0), STAR, ODD, ("sums", (((0, 2), None, (5, 1)), ((1,), None, (3, 1))))),
    (("tie", 0), LONE, MANY[:4], ("sums", (((0, 1, 2), None, (15, 1)),))),
    (("tie", 1), LONE, (FOUR, FOUR, ODD[2], FOUR), ("sums", (((), OTHER_TIE, (1, 1)), ((1, 2), None, (5, 1))))),
    # Another worth.
    (("worth", 0), RING, SAME, ("sums", (((0, 1, 2), TIE, (15, 1)),))),
    (("worth", 0), RING, SAME, ("sums", (((0, 1, 2), TIE, (-14, 1)),))),
    (("worth", 0), RING, SAME, ("sums", (((), None, (0, 1)), WHOLE))),
    (("worth", 1), BOTH, MANY, ("sums", (WHOLE, ((3, 4, 5), TIE, (14, 1))))),
    (("worth", 0), LONE, MANY[:4], ("sums", (((0,), None, (2, 1)),))),
    (("worth", 1), LONE, MANY[:4], ("sums", (((), TIE, (1, 1)), ((3,), None, (3, 1))))),
    (("worth", 0), PAIR, (FLAT, FLAT), ("sums", (((0, 1), None, (2, 1)),))),
    (("worth", 0), LONE, MANY[:4], ("sums", (((0, 3), None, (5, 1)),))),
    # All of one block before the next one, and these before a place that lacks.
    (("worth", 0), BOTH, MANY, ("sums", (((0, 1, 2), TIE, (15, 1)), None))), (("block", 1), BOTH, MANY, ("sums", (WHOLE, None))),
    (("lacks", 0), RING, SAME, ("sums", ())), (("lacks", 3), BOTH, MANY, ("sums", (WHOLE,))),
    (("lacks", 0), BOTH, MANY, ("sums", (((3, 4, 5), TIE, (9, 1)),))),
    (("lacks", 1), LONE, MANY[:4], ("sums", (((0,), None, (3, 1)), ((3,), None, (2, 1))))),
    (("lacks", 2), RING, SAME, ("sums", (((0, 1), TIE, (9, 1)),))),
    # Ranks that come to more, last of all.
    (("ranks", -1), RING, SAME, ("sums", (((0, 1), TIE, (9, 1)), ((2,), None, (3, 1))))),
    (("ranks", -1), RING, SAME, ("sums", (((0, 1), None, (9, 1)), ((2,), None, (3, 1))))),
    (("ranks", -1), STAR, SAME, ("sums", (((0, 1), TIE, (5, 1)), ((2,), TIE, (3, 1))))),
    (("ranks", -1), RING, SAME, ("sums", (((0,), None, (3, 1)), ((1,), None, (3, 1)), ((2,), None, (3, 1))))),
    (("ranks", -1), WIDE, MANY[:4], ("sums", (((0, 1), TIE, (9, 1)), ((2, 3), None, (9, 1))))),
)


def refusal(word):
    return {"word": word, "at": -1}


def wanted_worth(book, rule, lot, tie):
    """What a block comes to by the words of its definition; None if its tie cannot stand."""
    left, rest = plain.cut(book, plain.others(book[1], lot)), plain.without(rule, plain.others(book[1], lot))
    if tie is not None:
        u, v = Fraction(*tie[0]), Fraction(*tie[1])
        return plain.tie_sum(left, rest, u, v) if plain.tie_holds(rule, u, v, lot) else None
    if len(lot) > 2 or (plain.is_pair(left) and plain.pair_gap(rest, 0, 1) != 0):
        return None
    return plain.worth_by(left, rest, tuple(range(len(lot))))


class SumPapers(Case):
    def test_that_the_checker_accepts_them(self):
        met = {True: 0, False: 0}
        for book in (*RULE_BOOKS, *GREAT_BOOKS, *EIGHT):
            for rule in rules_of(book[1], 1, "papers"):
                try:
                    worth = worth_by_parts(book, rule)
                except Untied as error:
                    self.refused(Untied, {"lot": error.lot}, sum_paper, book, rule)
                    met[False] += 1
                else:
                    paper = sum_paper(book, rule)
                    self.assertIs(type(paper), tuple)
                    self.exact(lets_sum(book, rule, paper), worth)
                    met[True] += 1
        self.assertGreater(min(met.values()), 100)

    def test_edges(self):
        for prime in (2, 3, 5, 7):
            self.exact(lets_sum((prime, 0, ()), (), sum_paper((prime, 0, ()), ())), (1, 1))
        self.exact(lets_sum(LONE, MANY[:4], sum_paper(LONE, MANY[:4])), (3 * 5 * 2, 1))
        self.exact(lets_sum(RING, (NOUGHTS,) * 3, sum_paper(RING, (NOUGHTS,) * 3)), (0, 1))
        self.exact(lets_sum(PAIR, (FLAT, FLAT), sum_paper(PAIR, (FLAT, FLAT))), (3, 1))
        self.refused(Untied, {"lot": (0, 1, 2)}, sum_paper, RING, ODD)
        self.refused(Untied, {"lot": (3, 4, 5)}, sum_paper, BOTH, SAME + ODD)

    def test_the_rule_is_refused_first(self):
        for bad in BAD_RULES:
            self.refused(NotUsable, refusal("rule"), sum_paper, RING, bad)
            self.refused(NotUsable, refusal("rule"), lets_sum, RING, bad, ("sums", (WHOLE,)))
            self.refused(NotUsable, refusal("rule"), lets_sum, RING, bad, None)


class Checker(Case):
    def test_each_entry_in_order(self):
        for (word, at), book, rule, thing in FAULTS:
            with self.subTest(book=book, rule=rule, thing=thing):
                self.refused(InvalidPaper, {"word": word, "at": at}, lets_sum, book, rule, thing)

    def test_papers_by_others(self):
        star = ((3, 4, 5), TIE, (9, 1))
        self.exact(lets_sum(RING, SAME, ("sums", (WHOLE,))), (14, 1))
        self.exact(lets_sum(BOTH, MANY, ("sums", (star, WHOLE))), (126, 1))
        self.exact(lets_sum(BOTH, MANY, ("sums", (((0, 1, 2, 3, 4, 5), TIE, (126, 1)),))), (126, 1))
        # Blocks of no places, with a tie or without one.
        blocks = (((), None, (1, 1)), star, ((), OTHER_TIE, (1, 1)), WHOLE, ((), TIE, (1, 1)))
        self.exact(lets_sum(BOTH, MANY, ("sums", blocks)), (126, 1))
        self.exact(lets_sum((2, 0, ()), (), ("sums", ())), (1, 1))
        self.exact(lets_sum((2, 0, ()), (), ("sums", (((), None, (1, 1)),))), (1, 1))
        # Two places of two parts are no pair, whatever their gap is.
        rule = (FOUR, FOUR, FOUR, ODD[2])
        for lone, pair in itertools.product((None, TIE), repeat=2):
            self.exact(lets_sum(LONE, MANY[:4], ("sums", (((0, 3), lone, (6, 1)), ((1, 2), pair, (5, 1))))), (30, 1))
        self.exact(lets_sum(LONE, rule, ("sums", (((0, 3), None, (6, 1)), ((1, 2), None, (5, 1))))), (30, 1))
        self.exact(lets_sum((2, 2, ()), ODD[1:], ("sums", (((0, 1), None, (4, 1)),))), (4, 1))
        self.exact(lets_sum((2, 2, ((1, 0), (0, 1))), ODD[1:], ("sums", (((0, 1), None, (12, 1)),))), (12, 1))
        self.exact(lets_sum(PAIR, (FLAT, FLAT), ("sums", (((0, 1), None, (3, 1)),))), (3, 1))

    def test_each_tie_where_any_will_do(self):
        four = ((1, 1), (0, 1), (1, 1), (2, 1))
        for u in ((0, 1), (5, 1), (-1, 3)):
            self.exact(lets_sum(RING, (four,) * 3, ("sums", (((0, 1, 2), (u, (2, 1)), (2, 1)),))), (2, 1))

    def test_all_blocks(self):
        met = {"true": 0, "tie": 0, "ranks": 0}
        for book in (RING, STAR, LONE, PAIR, (3, 3, ((1, 0, 2),)), (2, 3, ((1, 0, 0), (0, 1, 0)))):
            size = book[1]
            for rule in (MANY[:size], (FOUR, ODD[2], FOUR, FOUR)[:size], (FLAT,) * size):
                for lots in lots_of_lots(size):
                    for ties in itertools.product((None, TIE), repeat=len(lots)):
                        met[self.check_blocks(book, rule, list(zip(lots, ties)))] += 1
        self.assertGreater(min(met.values()), 50)

    def check_blocks(self, book, rule, held):
        """Compare what the checker says of blocks that have all places, with the tests' own reckoning; return a word."""
        worths = [wanted_worth(book, rule, lot, tie) for lot, tie in held]
        paper = ("sums", tuple((lot, tie, quotient(worth or Fraction(0))) for (lot, tie), worth in zip(held, worths)))
        if None in worths:
            self.refused(InvalidPaper, {"word": "tie", "at": worths.index(None)}, lets_sum, book, rule, paper)
            return "tie"
        if sum(plain.rank(book, lot) for lot, _ in held) > len(book[2]):
            self.refused(InvalidPaper, refusal("ranks"), lets_sum, book, rule, paper)
            return "ranks"
        worth = Fraction(1)
        for each in worths:
            worth *= each
        self.exact(lets_sum(book, rule, paper), quotient(worth))
        self.assertTrue(plain.fits(book, rule))
        self.assertEqual(plain.tree_worths(book, rule), {worth})
        return "true"


if __name__ == "__main__":
    unittest.main()
