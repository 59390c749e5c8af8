"""Rule and Even [42]."""

import itertools
import unittest

from cutorclose.errors import InvalidPaper, InvalidText, NotUsable
from cutorclose.reckoning import worth_by
from cutorclose.ruleclasses import Even, Rule
from cutorclose.rulekinds import rule_left, rule_of_checks, same_rule
from cutorclose.ruletexts import rule_line
from tests.support import (BAD_ORDERS, BAD_PLACES, FOUR, GREAT, ODD, ODD_VALUES, RING, SMALL_BOOKS, STAR, WIDE, Case, lots_of, rules_of)
from tests.test_lots import BAD_LOTS
from tests.test_rulelines import FAULTS as TEXT_FAULTS
from tests.test_rules import FAULTS, MIXED, NO_FOURS, OTHER

RULES = [rule for size in range(5) for rule in rules_of(size, 2, "objects")]
BAD_FOURS = (*NO_FOURS, ((1, 1), (1, 1), (1, 1), (2, 2)), (1, 1, 1, 1), ((1, 1), (1, 1), (1, 1), True),
             ((True, 1), (1, 1), (3, 1), (2, 1)))


class Derived(Rule):
    """A Rule of a derived class."""


def refusal(word):
    return {"word": word, "at": -1}


class Rules(Case):
    def test_properties_items_and_iteration(self):
        for rule in RULES:
            one = Rule(*rule)
            self.exact((one.rule_now, one.size_now, len(one), list(one)), (rule, len(rule), len(rule), list(rule)))
            self.exact(str(one), rule_line(rule))
            for place, four in enumerate(rule):
                self.exact(one[place], four)
                for index, number in enumerate(four):
                    self.exact(one.number(place, index), number)

    def test_a_value_that_is_no_four(self):
        for _, thing, word, at in FAULTS:
            if word in ("four", "number"):
                self.refused(InvalidPaper, {"word": word, "at": at}, Rule, *thing)
                self.refused(InvalidPaper, {"word": word, "at": at}, Derived, *thing)
        self.refused(InvalidPaper, {"word": "four", "at": 0}, Rule, ODD)
        self.refused(InvalidPaper, {"word": "four", "at": 1}, Rule, FOUR, ((1, 1),), None)
        self.exact(Rule().rule_now, ())

    def test_left_checks_and_given(self):
        for rule in RULES:
            one = Rule(*rule)
            self.exact(one.checks().rule_now, rule_of_checks(rule))
            for lot in lots_of(len(rule)):
                self.exact(one.left(lot).rule_now, rule_left(rule, lot))
            for place in range(len(rule)):
                self.exact(one.given(place, OTHER).rule_now, (*rule[:place], OTHER, *rule[place + 1:]))
            self.exact(one.rule_now, rule)

    def test_one_behind_the_other(self):
        for one, other in itertools.product(RULES[::3], repeat=2):
            self.exact((Rule(*one) + Rule(*other)).rule_now, one + other)
        self.exact((Even(2, FOUR) + Even(1, OTHER)).rule_now, (FOUR, FOUR, OTHER))
        for bad in (*ODD_VALUES, (), ODD, FOUR):
            self.refused(NotUsable, refusal("other"), lambda: Rule(*ODD) + bad)

    def test_called(self):
        for book in SMALL_BOOKS[::3]:
            rule = rules_of(book[1], 1, "called")[0]
            order = tuple(range(book[1]))[::-1]
            self.exact(Rule(*rule)(book, order), worth_by(book, rule, order))
        one = Rule(*ODD)
        for bad in (*ODD_VALUES, (), WIDE, (2, 0, ()), (2, 3, [(1, 1, 1)]), (2, 3, ((1, 1, 0), (0, 1, 1))), (2, True, ()),
                    list(RING), ODD):
            self.refused(NotUsable, refusal("book"), one, bad, (0, 1, 2))
            self.refused(NotUsable, refusal("book"), one, bad, None)
        self.refused(NotUsable, refusal("book"), one, (2, GREAT, ()), (0, 1, 2))
        self.refused(NotUsable, refusal("book"), Rule(FOUR), (2, True, ()), (0,))
        for bad in BAD_ORDERS:
            self.refused(NotUsable, refusal("order"), one, RING, bad)

    def test_by_name(self):
        one = Rule(*ODD)
        self.exact(one.number(index=3, place=2), (2, 1))
        self.exact(one.left(lot=(0,)).rule_now, ODD[1:])
        self.exact(one.given(four=OTHER, place=0).rule_now, (OTHER, *ODD[1:]))
        self.exact(one(order=(2, 0, 1), book=RING), (14, 1))
        self.exact(Rule.read(text="rule 1 1 3 2").rule_now, (FOUR,))
        self.exact(Even(four=FOUR, size=2).rule_now, (FOUR, FOUR))

    def test_refused(self):
        for one in (Rule(*MIXED), Even(3, OTHER)):
            for bad in BAD_PLACES:
                self.refused(NotUsable, refusal("place"), lambda: one[bad])
                self.refused(NotUsable, refusal("place"), one.number, bad, 9)
                self.refused(NotUsable, refusal("place"), one.given, bad, None)
            for bad in (4, -1, True, False, None, "0", (0,), [0], GREAT):
                self.refused(NotUsable, refusal("index"), one.number, 0, bad)
            for bad in BAD_FOURS:
                self.refused(NotUsable, refusal("four"), one.given, 2, bad)
            for bad in BAD_LOTS:
                self.refused(NotUsable, refusal("lot"), one.left, bad)
        self.refused(NotUsable, refusal("place"), lambda: Rule()[0])

    def test_fours_in_it(self):
        one = Rule(*MIXED)
        for four in MIXED:
            self.exact(four in one, True)
            self.exact(list(four) in one, False)
        for thing in (*ODD_VALUES, MIXED, FOUR[:3], (*FOUR[:3], (3, 1)), ((True, 1), *FOUR[1:]), (FOUR,), ((1, True), *FOUR[1:])):
            self.exact(thing in one, False)
        self.exact(FOUR in Rule(), False)

    def test_equal(self):
        for one, other in itertools.product(RULES[::2], repeat=2):
            self.exact(Rule(*one) == Rule(*other), one == other)
            self.exact(Rule(*one) != Rule(*other), one != other)
        self.exact(Rule(FOUR, FOUR) == Even(2, FOUR), True)
        self.exact(Even(2, FOUR) == Derived(FOUR, FOUR), True)
        self.exact(Even(0, FOUR) == Even(0, OTHER), True)
        self.exact(Even(2, FOUR) == Rule(FOUR), False)
        for other in (*ODD_VALUES, ODD, rule_line(ODD)):
            self.exact(Rule(*ODD) == other, False)

    def test_read(self):
        for rule in RULES:
            self.exact(Rule.read(rule_line(rule)) == Rule(*rule), True)
        for text, field in TEXT_FAULTS:
            self.refused(InvalidText, {"line": 0, "field": field}, Rule.read, text)
        for bad in (None, True, 0, ("rule",), ["rule"], ODD):
            self.refused(NotUsable, refusal("text"), Rule.read, bad)

    def test_all_rules_told_are_of_the_class_itself(self):
        for one in (Derived(*ODD), Even(3, FOUR)):
            for told in (one.left((0,)), one.checks(), one + one, one.given(0, FOUR), one + Rule(), Rule() + one):
                self.assertIs(type(told), Rule)
        self.assertIs(type(Rule.read("rule")), Rule)

    def test_never_changes(self):
        fours = list(MIXED)
        one = Rule(*fours)
        fours.clear()
        for call in (lambda: one.left((0,)), lambda: one.checks(), lambda: one.given(0, FOUR), lambda: one + one,
                     lambda: list(one).clear(), lambda: str(one), lambda: one[0], lambda: one(STAR, (0, 1, 2)),
                     lambda: one.number(0, 0), lambda: FOUR in one):
            call()
            self.exact((one.rule_now, list(one), len(one)), (MIXED, list(MIXED), 3))
        for name in ("rule_now", "size_now"):
            with self.assertRaises(AttributeError):
                setattr(one, name, ())

    def test_forty_places(self):
        one = Even(40, OTHER)
        self.exact((len(one), one[39], one.left(tuple(range(39))).rule_now), (40, OTHER, (OTHER,)))
        self.exact(Rule.read(str(one)) == one, True)


class Evens(Case):
    def test_the_same_everywhere(self):
        for size in (0, 1, 3, 8):
            one = Even(size, OTHER)
            self.assertIsInstance(one, Rule)
            self.exact((one.rule_now, one.four_now, one.size_now), (same_rule(size, OTHER), OTHER, size))
            self.exact((len(one), list(one)), (size, [OTHER] * size))
            self.exact(OTHER in one, size > 0)
        self.exact(Even(3, FOUR)(RING, (0, 1, 2)), (14, 1))
        with self.assertRaises(AttributeError):
            Even(3, FOUR).four_now = OTHER

    def test_refused(self):
        for bad in (-1, True, None, "1", (1,), [1]):
            self.refused(NotUsable, refusal("size"), Even, bad, None)
        for bad in BAD_FOURS:
            self.refused(NotUsable, refusal("four"), Even, 2, bad)
            self.refused(NotUsable, refusal("four"), Even, 0, bad)


if __name__ == "__main__":
    unittest.main()
