"""Rules written and read as lines [13] [33] [36]."""

import itertools
import unittest

from cutorclose.errors import InvalidText, NotUsable
from cutorclose.rulekinds import is_rule
from cutorclose.rulereadings import read_rule
from cutorclose.ruletexts import rule_line
from tests.support import FOUR, GREAT, NO_RULES, ODD, Case, rules_of
from tests.test_rules import NO_FOURS, NO_QUOTIENTS

NINES = "9" * 60
EIGHTS = "8" * 60

# Words that cannot stand where a number can.
NO_NUMBERS = (
    "", "x", "/", "-", "--1", "+1", "01", "-01", "00", "-0", "-0/2", "0/2", "0/1", "1/1", "-1/1", "2/2", "2/4", "-2/4", "6/4",
    "-6/9",
    "1/0", "0/0", "1/-2", "1/02", "01/2", "-01/2", "1/", "/2", "-/2", "1//2", "1/2/3", "1/2/", "1/x", "x/2", "1\n", "\n1", "1/2\n",
    "1.0", "1.", "1_0", "1e1", "0x1", "1/+2", "rule", "1/01", "5/5", "1-2", "1-", "1/2-", NINES + "9", "-" + NINES + "9",
    "1/" + NINES + "9",
    NINES + "9/2", "0" + NINES, "1/0" + NINES[1:], EIGHTS + "/" + EIGHTS, "88/" + EIGHTS,
)

# A number that a word writes.
NUMBERS = (
    ("0", (0, 1)), ("1", (1, 1)), ("-1", (-1, 1)), ("10", (10, 1)), ("-3/2", (-3, 2)), ("1/2", (1, 2)), ("7/10", (7, 10)),
    (NINES, (GREAT, 1)), ("-" + NINES, (-GREAT, 1)), ("1/" + NINES, (1, GREAT)), ("-1/" + NINES, (-1, GREAT)),
    (NINES + "/2", (GREAT, 2)), ("-" + NINES + "/1" + "0" * 59, (-GREAT, 10 ** 59)),
)

# A text and the field of its first fault.
FAULTS = (
    # The first word.
    ("", 0), (" ", 0), ("rules", 0), ("Rule", 0), ("rule\n", 0), (" rule", 0), ("1 1 1 1", 0), ("book 2 0", 0), ("\n", 0),
    ("rule\n1", 0),
    # An empty word, a word that cannot stand, ahead of what lacks.
    ("rule ", 1), ("rule  1 1 1 1", 1), ("rule 1 1 1 1 ", 5), ("rule 1 1 1  1", 4), ("rule 1 2/4 3 2", 2), ("rule 1 1 1 x", 4),
    ("rule x", 1),
    ("rule 1 1 1 1\n", 4), ("rule 1 1 1 1 / 1 1 1", 5), ("rule 1 1 1 1 rule", 5), ("rule 1 x y 1", 2), ("rule 1 1 1 1 1 x", 6),
    ("rule 1 1 1 1 2 2 2/2", 7),
    # The last four is not whole.
    ("rule 1", 2), ("rule 1 1", 3), ("rule 1 1 1", 4), ("rule 1 1 1 1 1", 6), ("rule 1 1 1 1 1 1 1", 8), ("rule 1/2 -1 0", 4),
)


def refusal(word):
    return {"word": word, "at": -1}


class RuleLines(Case):
    def test_written(self):
        self.exact(rule_line(()), "rule")
        self.exact(rule_line((FOUR,)), "rule 1 1 3 2")
        self.exact(rule_line(ODD), "rule 1 1 3 2 1 1 3 2 1 1 4 2")
        self.exact(rule_line((((-1, 1), (-1, 2), (0, 1), (GREAT, 2)),)), "rule -1 -1/2 0 " + NINES + "/2")
        self.exact(rule_line((((1, 2), (-3, 1), (0, 1), (2, 1)),)), "rule 1/2 -3 0 2")

    def test_read_what_is_written(self):
        for size in range(6):
            for rule in rules_of(size, 4):
                self.exact(read_rule(rule_line(rule)), rule)

    def test_forty_places(self):
        fours = [(((-1) ** k * k, 1), (1, k + 2), (k + 3, k + 2), (0, 1)) for k in range(40)]
        self.exact(read_rule(rule_line(tuple(fours))), tuple(fours))
        self.exact(rule_line(tuple(fours)).count(" "), 160)

    def test_a_thousand_figures_are_written(self):
        great = (10 ** 999 + 1, 10 ** 999)
        self.exact(rule_line(((great,) * 4,)), "rule" + 4 * f" {10 ** 999 + 1}/{10 ** 999}")

    def test_numbers_at_each_spot(self):
        for at, (word, number) in itertools.product(range(8), NUMBERS):
            words = ["1"] * at + [word] + ["1"] * (7 - at)
            text = " ".join(["rule", *words])
            numbers = [(1, 1)] * at + [number] + [(1, 1)] * (7 - at)
            self.exact(read_rule(text), (tuple(numbers[:4]), tuple(numbers[4:])))
            self.exact(rule_line(read_rule(text)), text)

    def test_what_cannot_stand_at_each_spot(self):
        for at, word in itertools.product(range(8), NO_NUMBERS):
            words = ["1"] * at + [word] + ["1"] * (7 - at)
            with self.subTest(at=at, word=word):
                self.refused(InvalidText, {"line": 0, "field": at + 1}, read_rule, " ".join(["rule", *words]))

    def test_the_field_of_each_fault(self):
        for text, field in FAULTS:
            with self.subTest(text=text):
                self.refused(InvalidText, {"line": 0, "field": field}, read_rule, text)

    def test_each_change_of_one_word(self):
        words = "rule 1 -1/2 0 3 4 5/6 7 -8".split(" ")
        for at, word in itertools.product(range(len(words)), ("", "rule", "0", "1", "-1", "1/2", "2/4", "x")):
            changed = [*words[:at], word, *words[at + 1:]]
            try:
                rule = read_rule(" ".join(changed))
            except InvalidText as error:
                self.exact((error.line, error.field), (0, at))
            else:
                self.exact(is_rule(2, rule), True)
                self.exact(rule_line(rule), " ".join(changed))

    def test_lacking_words(self):
        words = "rule 1 -1/2 0 3 4 5/6 7 -8".split(" ")
        for many in range(2, 9):
            if many != 5:
                self.refused(InvalidText, {"line": 0, "field": many}, read_rule, " ".join(words[:many]))
        self.exact(read_rule("rule"), ())

    def test_refused(self):
        for bad in NO_RULES:
            self.refused(NotUsable, refusal("rule"), rule_line, bad)
        for bad in NO_FOURS:
            self.refused(NotUsable, refusal("rule"), rule_line, (FOUR, bad))
        for bad in NO_QUOTIENTS:
            self.refused(NotUsable, refusal("rule"), rule_line, (FOUR, (*FOUR[:3], bad)))
        for bad in (None, True, 0, (), ("rule",), ["rule"], ODD):
            self.refused(NotUsable, refusal("text"), read_rule, bad)


if __name__ == "__main__":
    unittest.main()
