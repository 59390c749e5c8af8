"""A rule on a book as an object."""

from cutorclose.bookchecker import lets_book
from cutorclose.books import checks_of
from cutorclose.equations import equations_of, failing, gap_in, is_equation
from cutorclose.fitting import worth_of
from cutorclose.kinds import is_below
from cutorclose.needs import need
from cutorclose.rulekinds import is_four, rule_left, rule_of_checks, rule_with
from cutorclose.takes import left_by, together


class Fit:
    """A book and a rule of it, and which equations fail; it never changes."""

    def __init__(self, book, rule):
        lets_book(book)
        # What is no rule of the book is refused here.
        self._failing = failing(book, rule)
        self._form = book
        self._rule = rule

    @property
    def form_now(self):
        """The book."""
        return self._form

    @property
    def rule_now(self):
        """The rule."""
        return self._rule

    @property
    def fits_now(self):
        """Whether the rule fits."""
        return len(self._failing) == 0

    @property
    def failing_now(self):
        """The set of the equations that fail."""
        return self._failing

    def __call__(self):
        return worth_of(self._form, self._rule)

    def __getitem__(self, at):
        # Only an equation is compared with those of the book, as True is equal to 1.
        need(is_equation(self._form[1], at) and at in equations_of(self._form), "equation")
        return gap_in(self._rule, at)

    def __contains__(self, x):
        return is_equation(self._form[1], x) and x in self._failing

    def __len__(self):
        return len(self._failing)

    def __iter__(self):
        return iter(self._failing)

    def given(self, place, four):
        """The Fit with this four at the place."""
        need(is_below(self._form[1], place), "place")
        need(is_four(four), "four")
        return Fit(self._form, rule_with(self._rule, place, four))

    def left(self, closed, cut):
        """The Fit of what is left by both lots."""
        left = left_by(self._form, closed, cut)
        return Fit(left, rule_left(self._rule, together(closed, cut)))

    def __invert__(self):
        return Fit(checks_of(self._form), rule_of_checks(self._rule))

    def __eq__(self, other):
        return isinstance(other, Fit) and self._form == other._form and self._rule == other._rule
