"""Rules as objects."""

from cutorclose.kinds import is_below, is_book
from cutorclose.needs import need
from cutorclose.reckoning import worth_by
from cutorclose.rulechecker import lets_rule
from cutorclose.rulekinds import is_four, rule_left, rule_of_checks, rule_with, same_rule
from cutorclose.rulereadings import read_rule
from cutorclose.ruletexts import rule_line


class Rule:
    """A rule as an object that never changes."""

    def __init__(self, *fours):
        lets_rule(len(fours), fours)
        self._fours = fours

    @property
    def rule_now(self):
        """The rule."""
        return self._fours

    @property
    def size_now(self):
        """How many places it has."""
        return len(self._fours)

    def __getitem__(self, at):
        need(is_below(len(self._fours), at), "place")
        return self._fours[at]

    def number(self, place, index):
        """The number with this index in the four of the place."""
        need(is_below(len(self._fours), place), "place")
        need(is_below(4, index), "index")
        return self._fours[place][index]

    def left(self, lot):
        """The Rule without the places of the lot."""
        fours = rule_left(self._fours, lot)
        return Rule(*fours)

    def checks(self):
        """The Rule of the checks."""
        fours = rule_of_checks(self._fours)
        return Rule(*fours)

    def __add__(self, other):
        need(isinstance(other, Rule), "other")
        fours = (*self._fours, *other._fours)
        return Rule(*fours)

    def given(self, place, four):
        """The Rule with this four at the place."""
        need(is_below(len(self._fours), place), "place")
        need(is_four(four), "four")
        fours = rule_with(self._fours, place, four)
        return Rule(*fours)

    def __call__(self, book, order):
        need(is_book(book) and book[1] == len(self._fours), "book")
        return worth_by(book, self._fours, order)

    def __contains__(self, x):
        # Only a four is compared with the fours, as (True, 1) is equal to (1, 1).
        return is_four(x) and x in self._fours

    def __len__(self):
        return len(self._fours)

    def __iter__(self):
        return iter(self._fours)

    def __str__(self):
        return str(rule_line(self._fours))

    def __eq__(self, other):
        return isinstance(other, Rule) and self._fours == other._fours

    @classmethod
    def read(cls, text):
        """The Rule whose line the string is."""
        fours = read_rule(text)
        return Rule(*fours)


class Even(Rule):
    """The Rule with one four at all places."""

    def __init__(self, size, four):
        fours = same_rule(size, four)
        super().__init__(*fours)
        self._four = four

    @property
    def four_now(self):
        """The four."""
        return self._four
