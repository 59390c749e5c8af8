"""The checker of papers of fit, with its whole list [43] [47] [49]."""

import itertools
import unittest
from fractions import Fraction

from cutorclose.errors import InvalidPaper, NotUsable
from cutorclose.fitchecker import lets_fit
from cutorclose.fitpapers import fit_paper
from tests import plain
from tests.papers import PaperCase
from tests.support import (BAD_RULES, BOTH, FOUR, GREAT_BOOKS, LONE, ODD, ODD_VALUES, RING, RULE_BOOKS, STAR, WIDE, rules_of,
                           splits)
from tests.test_fitting import FLAT, NOUGHTS

TIE = ((2, 1), (1, 1))
OTHER_TIE = ((1, 1), (1, 1))
SAME = (FOUR,) * 3
MANY = (FOUR,) * 6
PAIR = (2, 2, ((1, 1),))
CLASH = ("clash", (1,), (), (0, 1), (1, 0))

# The entry, a book, a rule, and what is no paper of it.
FAULTS = (
    # Neither form, ahead of all else.
    *[(("shape", -1), RING, SAME, thing) for thing in ODD_VALUES],
    *[(("shape", -1), RING, SAME, thing) for thing in (
        (), ("all", ()), ("all", None), ["all"], "all", ("All",), (("all",),), ("alls",), ("parts",), ("parts", None),
        ("parts", []), ("parts", "x"),
        ("parts", (), ()), ["parts", ()], ("part", ()), (True, ()), (("parts",), ()), (["parts"], ()), ("clash",),
        ("clash", (), ()),
        ("clash", (1,), (), (0, 1)), ("clash", (1,), (), (0, 1), (1, 0), ()), ["clash", (1,), (), (0, 1), (1, 0)],
        ("clashes", (1,), (), (0, 1), (1, 0)), (None, (1,), (), (0, 1), (1, 0)), (["clash"], (1,), (), (0, 1), (1, 0)))],
    # All equations, the first one that fails.
    (("equation", ("pair", 0, 2)), RING, ODD, ("all",)), (("equation", ("pair", 0, 1)), RING, (ODD[2], FOUR, FOUR), ("all",)),
    (("equation", ("pair", 3, 5)), BOTH, SAME + ODD, ("all",)),
    (("equation", ("ring", 0, 1, 2)), RING, tuple(((k, 1), (2, 1), (3 * k + 2, 1), (6 + k, 1)) for k in range(3)), ("all",)),
    # A row that is no pair.
    *[(("row", 0), RING, SAME, ("parts", (row,))) for row in
      (None, 0, (), ((0, 1, 2),), [(0, 1, 2), TIE], ((0, 1, 2), TIE, None), "xy", True)],
    (("row", 1), BOTH, MANY, ("parts", (((0, 1, 2), TIE), (3, 4, 5)))),
    # A lot that is none, or has no places.
    *[(("lot", 0), RING, SAME, ("parts", ((lot, TIE),))) for lot in
      (None, (), 0, [0, 1, 2], (0, 1, 3), (2, 1, 0), (0, 0, 1), (0, True, 2), "012", (-1, 0), ((0,),))],
    (("lot", 0), RING, SAME, ("parts", (((), None),))), (("lot", 1), BOTH, MANY, ("parts", (((0, 1, 2), TIE), ((), TIE)))),
    (("lot", 0), RING, SAME, ("parts", ((None, 7), None))),
    # A place of an earlier one, ahead of adding up.
    (("twice", 1), BOTH, MANY, ("parts", (((0, 1, 2), TIE), ((0, 1, 2), TIE)))),
    (("twice", 1), BOTH, MANY, ("parts", (((3, 4, 5), TIE), ((3,), 7)))),
    (("twice", 2), LONE, MANY[:4], ("parts", (((0,), None), ((1, 2), TIE), ((2, 3), TIE)))),
    (("twice", 1), BOTH, MANY, ("parts", (((0, 1, 2), TIE), ((0, 1, 2, 3, 4, 5), TIE)))),
    # What does not add up, ahead of the tie.
    (("adds", 0), RING, SAME, ("parts", (((0, 1), TIE), ((2,), TIE)))),
    (("adds", 0), RING, SAME, ("parts", (((0,), None), ((1,), None), ((2,), None)))),
    (("adds", 1), BOTH, MANY, ("parts", (((0, 1, 2), TIE), ((3, 4), 7)))), (("adds", 0), BOTH, MANY, ("parts", (((2, 3), None),))),
    (("adds", 0), WIDE, MANY[:4], ("parts", (((0, 1), TIE), ((2, 3), TIE)))),
    # What is no tie.
    *[(("tie", 0), RING, SAME, ("parts", (((0, 1, 2), tie),))) for tie in
      (True, False, 0, (), "any", ("any", "any"), ((2, 1),), ((2, 1), (1, 1), (1, 1)), [(2, 1), (1, 1)], ((2, 1), 1), ((4, 2), (1, 1)),
       ((2, 1), (True, 1)), ((2, 1), [1, 1]), ((2, 1), "any"), ((2, 0), (1, 1)), ((2, 1), (1, -1)))],
    (("tie", 0), LONE, MANY[:4], ("parts", (((0,), "any"),))),
    # A tie that does not hold.
    (("holds", 0), RING, SAME, ("parts", (((0, 1, 2), OTHER_TIE),))),
    (("holds", 0), RING, SAME, ("parts", (((0, 1, 2), ((2, 1), (0, 1))),))),
    (("holds", 0), RING, ODD, ("parts", (((0, 1, 2), TIE),))),
    (("holds", 1), BOTH, SAME + ODD, ("parts", (((0, 1, 2), TIE), ((3, 4, 5), TIE)))),
    (("holds", 0), BOTH, SAME + ODD, ("parts", (((0, 1, 2, 3, 4, 5), TIE),))),
    (("holds", 0), LONE, MANY[:4], ("parts", (((0,), OTHER_TIE),))),
    # None, where there are too many places or the pair gap is not nought.
    (("gap", 0), RING, SAME, ("parts", (((0, 1, 2), None),))), (("gap", 0), PAIR, ODD[1:], ("parts", (((0, 1), None),))),
    (("gap", 1), LONE, (FOUR, *ODD[1:], FOUR), ("parts", (((0,), None), ((1, 2), None)))),
    (("gap", 0), LONE, (FOUR, FOUR, FOUR, ODD[2]), ("parts", (((0, 3), None),))),
    (("gap", 0), BOTH, MANY, ("parts", (((0, 1, 2, 3, 4, 5), None),))),
    # All of one element ahead of the next one, and these ahead of a place in no lot.
    (("gap", 0), BOTH, MANY, ("parts", (((0, 1, 2), None), None))), (("row", 1), BOTH, MANY, ("parts", (((0, 1, 2), TIE), None))),
    (("places", -1), RING, SAME, ("parts", ())), (("places", -1), BOTH, MANY, ("parts", (((0, 1, 2), TIE),))),
    (("places", -1), LONE, MANY[:4], ("parts", (((1, 2), TIE), ((3,), None)))),
    # The lots of a clash.
    *[(("closed", -1), RING, ODD, ("clash", lot, None, None, None)) for lot in (None, [1], (3,), (1, 0), (True,), 1, "1", (-1,))],
    *[(("cut", -1), RING, ODD, ("clash", (1,), lot, None, None)) for lot in (None, [], (1,), (3,), (0, 1), (True,), (0, 0), 0)],
    (("left", -1), RING, ODD, ("clash", (1,), (0,), None, None)), (("left", -1), RING, ODD, ("clash", (0, 1, 2), (), (), ())),
    (("left", -1), WIDE, (FOUR, *ODD), ("clash", (), (), (0, 1, 2, 3), (3, 2, 1, 0))),
    (("left", -1), BOTH, SAME + ODD, ("clash", (0,), (1,), None, None)),
    # Its orders, of the places that are left, counted anew.
    *[(("first", -1), RING, ODD, ("clash", (1,), (), order, None)) for order in
      (None, (), (0,), (0, 2), (0, 1, 2), [0, 1], (0, 0), (False, 1), "01")],
    *[(("second", -1), RING, ODD, ("clash", (1,), (), (0, 1), order)) for order in
      (None, (), (1,), (2, 0), (2, 1, 0), [1, 0], (1, 1), (True, 0))],
    (("first", -1), RING, ODD, ("clash", (), (), (0, 1), (1, 0))),
    (("second", -1), RING, ODD, ("clash", (), (), (0, 1, 2), (1, 0))),
    # Both worths are one.
    (("worths", -1), RING, ODD, ("clash", (1,), (), (0, 1), (0, 1))),
    (("worths", -1), RING, ODD, ("clash", (2,), (), (0, 1), (1, 0))),
    (("worths", -1), RING, ODD, ("clash", (), (1,), (0, 1), (1, 0))),
    (("worths", -1), RING, SAME, ("clash", (), (), (0, 1, 2), (2, 1, 0))),
    (("worths", -1), PAIR, ODD[:2], ("clash", (), (), (0, 1), (1, 0))),
)


def refusal(word):
    return {"word": word, "at": -1}


class Checker(PaperCase):
    def test_each_entry_in_order(self):
        for (word, at), book, rule, thing in FAULTS:
            with self.subTest(book=book, rule=rule, thing=thing):
                self.refused(InvalidPaper, {"word": word, "at": at}, lets_fit, book, rule, thing)

    def test_papers_that_are_told(self):
        for book in (*RULE_BOOKS, *GREAT_BOOKS):
            for rule in rules_of(book[1], 1, "told"):
                paper = fit_paper(book, rule)
                self.exact(lets_fit(book, rule, paper), paper[0] != "clash")

    def test_all(self):
        for book in RULE_BOOKS:
            for rule in rules_of(book[1], 1, "all"):
                if plain.fits(book, rule):
                    self.exact(lets_fit(book, rule, ("all",)), True)
                else:
                    with self.assertRaises(InvalidPaper) as caught:
                        lets_fit(book, rule, ("all",))
                    self.exact(caught.exception.word, "equation")
        self.exact(lets_fit((2, 0, ()), (), ("all",)), True)

    def test_papers_of_parts_by_others(self):
        self.exact(lets_fit(BOTH, MANY, ("parts", (((3, 4, 5), TIE), ((0, 1, 2), TIE)))), True)
        self.exact(lets_fit(BOTH, MANY, ("parts", (((0, 1, 2, 3, 4, 5), TIE),))), True)
        self.exact(lets_fit(LONE, MANY[:4], ("parts", (((0, 3), None), ((1, 2), None)))), True)
        self.exact(lets_fit(LONE, MANY[:4], ("parts", (((3,), TIE), ((0,), None), ((1, 2), TIE)))), True)
        self.exact(lets_fit(LONE, MANY[:4], ("parts", (((0, 1, 2, 3), TIE),))), True)
        self.exact(lets_fit((3, 2, ()), ODD[1:], ("parts", (((0,), None), ((1,), None)))), True)
        self.exact(lets_fit(PAIR, (FLAT, FLAT), ("parts", (((0, 1), None),))), True)
        self.exact(lets_fit((2, 0, ()), (), ("parts", ())), True)
        for u, v in itertools.product(((0, 1), (-5, 3), (2, 1)), repeat=2):
            self.exact(lets_fit(RING, (NOUGHTS,) * 3, ("parts", (((0, 1, 2), (u, v)),))), True)

    def test_all_papers_of_parts(self):
        ties = [None, TIE, OTHER_TIE]
        for book in (LONE, PAIR, (2, 3, ((1, 1, 0),)), (3, 3, ((1, 0, 0), (0, 0, 1)))):
            size = book[1]
            for rule in (MANY[:size], (FOUR, FOUR, ODD[2], FOUR)[:size]):
                for lots in lots_of_lots(size):
                    for chosen in itertools.product(ties, repeat=len(lots)):
                        self.check_rows(book, rule, tuple(zip(lots, chosen)))

    def check_rows(self, book, rule, rows):
        """Compare what the checker says of rows, whose lots have all places, with the tests' own reckoning."""
        fault = None
        for k, (lot, tie) in enumerate(rows):
            ranks = plain.rank(book, lot) + plain.rank(book, plain.others(book[1], lot))
            if ranks != plain.rank(book, range(book[1])):
                fault = fault or ("adds", k)
            elif tie is None:
                if len(lot) > 2 or (len(lot) == 2 and plain.pair_gap(rule, *lot) != 0):
                    fault = fault or ("gap", k)
            elif not plain.tie_holds(rule, Fraction(*tie[0]), Fraction(*tie[1]), lot):
                fault = fault or ("holds", k)
        if fault is None:
            self.exact(lets_fit(book, rule, ("parts", rows)), True)
            self.assertTrue(plain.fits(book, rule))
        else:
            self.refused(InvalidPaper, {"word": fault[0], "at": fault[1]}, lets_fit, book, rule, ("parts", rows))

    def test_all_clashes(self):
        met = 0
        for book in (RING, STAR, WIDE, LONE):
            for rule in (*rules_of(book[1], 1, "clashes"), (*ODD, FOUR)[:book[1]]):
                for closed, cut in splits(book[1]):
                    many = book[1] - len(closed) - len(cut)
                    if many in (2, 3):
                        met += self.check_orders(book, rule, closed, cut, many)
        self.assertGreater(met, 100)

    def check_orders(self, book, rule, closed, cut, many):
        """Compare what the checker says of two orders of all that is left so; tell how many are clashes."""
        left, rest = plain.left(book, closed, cut), plain.without(rule, closed + cut)
        worths = {order: plain.worth_by(left, rest, order) for order in itertools.permutations(range(many))}
        met = 0
        for first, second in itertools.product(worths, repeat=2):
            clash = ("clash", closed, cut, first, second)
            if worths[first] != worths[second]:
                self.exact(lets_fit(book, rule, clash), False)
                met += 1
            else:
                self.refused(InvalidPaper, {"word": "worths", "at": -1}, lets_fit, book, rule, clash)
        return met

    def test_what_an_accepted_paper_states_is_true(self):
        for book in RULE_BOOKS[::3]:
            rules = rules_of(book[1], 1, "true")
            papers = [fit_paper(book, rule) for rule in rules]
            for rule, paper in itertools.product(rules, [*papers, ("all",)]):
                try:
                    self.exact(lets_fit(book, rule, paper), plain.fits(book, rule))
                except InvalidPaper:
                    pass

    def test_the_rule_is_refused_first(self):
        for bad in BAD_RULES:
            self.refused(NotUsable, refusal("rule"), lets_fit, RING, bad, CLASH)
            self.refused(NotUsable, refusal("rule"), lets_fit, RING, bad, None)


def lots_of_lots(size):
    """All ways to part so many places into lots, in the order of their first places."""
    if size == 0:
        return [()]
    found = []
    for lots in lots_of_lots(size - 1):
        found.append((*lots, (size - 1,)))
        found += [(*lots[:k], (*lots[k], size - 1), *lots[k + 1:]) for k in range(len(lots))]
    return found


if __name__ == "__main__":
    unittest.main()
