"""Rules judged [9] [33] [34] [35]."""

import unittest

from cutorclose.errors import InvalidPaper, NotUsable
from cutorclose.rulechecker import lets_rule
from cutorclose.rulekinds import is_rule, rule_left, rule_of_checks, same_rule
from tests.support import FOUR, GREAT, ODD, ODD_VALUES, Case, lots_of

OTHER = ((1, 2), (-3, 1), (0, 1), (GREAT, 2))
MIXED = (FOUR, OTHER, ((5, 1), (6, 1), (7, 1), (8, 1)))
NO_QUOTIENTS = (None, True, 1, "1", (), (1,), (2, 4), (0, 2), (1, 0), (1, -1), (True, 1), (1, True), [1, 1], (1, 1, 1))
NO_FOURS = (None, True, 4, "four", (), FOUR[:3], FOUR + FOUR[:1], list(FOUR), (FOUR,))

# A size, what is no rule of it, and the entry of the list.
FAULTS = [
    (3, None, "shape", -1), (0, [], "shape", -1), (3, list(ODD), "shape", -1), (1, "a", "shape", -1), (1, True, "shape", -1),
    (2, [None], "shape", -1),
    (2, ODD, "many", -1), (4, ODD, "many", -1), (1, (), "many", -1), (0, (None,), "many", -1), (GREAT, ODD, "many", -1),
    (1, (None, None), "many", -1),
    *[(1, (bad,), "four", 0) for bad in NO_FOURS], *[(3, (FOUR, FOUR, bad), "four", 2) for bad in NO_FOURS],
    (2, (None, None), "four", 0),
    *[(2, (FOUR, (*OTHER[:j], bad, *OTHER[j + 1:])), "number", (1, j)) for j in range(4) for bad in NO_QUOTIENTS],
    (1, ((1, 1, 1, 1),), "number", (0, 0)), (1, (((1, 1), 5, (1, 1), 5),), "number", (0, 1)),
    # All of one element comes before the next one.
    (2, (((1, 1), (1, 1), (1, 1), None), None), "number", (0, 3)), (2, (None, (5, 5, 5, 5)), "four", 0),
]


class Rules(Case):
    def test_is_rule(self):
        for rule in ((), (FOUR,), ODD, MIXED, (FOUR,) * 8):
            self.exact(is_rule(len(rule), rule), True)
            self.exact(is_rule(len(rule) + 1, rule), False)
            self.exact(is_rule(len(rule), list(rule)), False)
        for size, thing, _, _ in FAULTS:
            self.exact(is_rule(size, thing), False)
        for thing in ODD_VALUES:
            self.exact(is_rule(1, thing), False)

    def test_lets_rule(self):
        for rule in ((), (FOUR,), ODD, MIXED, (FOUR,) * 8):
            self.exact(lets_rule(len(rule), rule), len(rule))

    def test_each_entry_in_order(self):
        for size, thing, word, at in FAULTS:
            with self.subTest(size=size, thing=thing):
                self.refused(InvalidPaper, {"word": word, "at": at}, lets_rule, size, thing)

    def test_sizes_refused(self):
        for bad in (-1, True, False, None, "1", (1,), [1]):
            self.refused(NotUsable, {"word": "size", "at": -1}, lets_rule, bad, None)
            self.refused(NotUsable, {"word": "size", "at": -1}, same_rule, bad, None)

    def test_rule_left(self):
        for lot in lots_of(3):
            self.exact(rule_left(MIXED, lot), tuple(four for k, four in enumerate(MIXED) if k not in lot))
        self.exact(rule_left((), ()), ())

    def test_rule_of_checks(self):
        self.exact(rule_of_checks(()), ())
        self.exact(rule_of_checks((OTHER, MIXED[2])), (((-3, 1), (1, 2), (GREAT, 2), (0, 1)), ((6, 1), (5, 1), (8, 1), (7, 1))))
        self.exact(rule_of_checks(rule_of_checks(MIXED)), MIXED)

    def test_same_rule(self):
        for size in (0, 1, 3, 8):
            self.exact(same_rule(size, OTHER), (OTHER,) * size)

    def test_rules_refused(self):
        no_rules = [thing for size, thing, word, _ in FAULTS if word != "many"]
        for bad in no_rules:
            self.refused(NotUsable, {"word": "rule", "at": -1}, rule_of_checks, bad)
            self.refused(NotUsable, {"word": "rule", "at": -1}, rule_left, bad, None)

    def test_lots_and_fours_refused(self):
        for bad in (None, True, 0, [0], (3,), (-1,), (1, 0), (0, 0), (True,), "0", ((0,),)):
            self.refused(NotUsable, {"word": "lot", "at": -1}, rule_left, ODD, bad)
        self.refused(NotUsable, {"word": "lot", "at": -1}, rule_left, (), (0,))
        for bad in (*NO_FOURS, ((1, 1), (1, 1), (1, 1), (2, 2)), (1, 1, 1, 1), ((1, 1), (1, 1), (1, 1), True)):
            self.refused(NotUsable, {"word": "four", "at": -1}, same_rule, 2, bad)
            self.refused(NotUsable, {"word": "four", "at": -1}, same_rule, 0, bad)


if __name__ == "__main__":
    unittest.main()
