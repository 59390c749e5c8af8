"""Tied rules as objects."""

from cutorclose.holdings import whole_tie
from cutorclose.kinds import is_below, is_book
from cutorclose.lotsums import lot_sum, pairs_in, tied_rule
from cutorclose.needs import need
from cutorclose.rulekinds import need_any_rule
from cutorclose.takes import kept_by


class Tied:
    """A rule told by closed and cut numbers and a tie that holds at all places; it never changes."""

    def __init__(self, pairs, tie):
        # What are no pairs, or no tie, is refused here.
        self._rule = tied_rule(pairs, tie)
        self._pairs = pairs
        self._tie = tie

    @property
    def pairs_now(self):
        """The pairs of closed and cut numbers."""
        return self._pairs

    @property
    def tie_now(self):
        """The tie."""
        return self._tie

    @property
    def rule_now(self):
        """The rule."""
        return self._rule

    def __getitem__(self, at):
        need(is_below(len(self._rule), at), "place")
        return self._rule[at]

    def __len__(self):
        return len(self._rule)

    def __iter__(self):
        return iter(self._rule)

    def __eq__(self, other):
        return isinstance(other, Tied) and self._pairs == other._pairs and self._tie == other._tie

    def __call__(self, book):
        need(is_book(book) and book[1] == len(self._rule), "book")
        return lot_sum(book, self._pairs, self._tie)

    def exchanged(self):
        """The Tied of the checks: closed and cut numbers exchanged, and both quotients of the tie."""
        u, v = self._tie
        return Tied(tuple([(cut, closed) for closed, cut in self._pairs]), (v, u))

    def without(self, lot):
        """The Tied of all places but those of the lot."""
        kept = kept_by(len(self._rule), lot)
        return Tied(tuple([self._pairs[place] for place in kept]), self._tie)

    @classmethod
    def of(cls, rule):
        """The Tied of a rule at all whose places one tie holds."""
        need_any_rule(rule)
        tie = whole_tie(rule, tuple(range(len(rule))))
        need(tie is not None, "rule")
        return Tied(pairs_in(rule), tie)
