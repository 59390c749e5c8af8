"""Goings: steps down as objects."""

from cutorclose.downs import after_step, brought_down, stands, steps_in
from cutorclose.errors import NotUsable
from cutorclose.kinds import is_book
from cutorclose.needs import need
from cutorclose.quotients import ONE, times
from cutorclose.rulekinds import need_rule
from cutorclose.stepkinds import is_step


class Going:
    """A book, a rule of it, and steps that stand one behind another; it never changes."""

    def __init__(self, book, rule, *steps):
        need(is_book(book), "book")
        need_rule(book, rule)
        self._begun = (book, rule)
        self._steps = steps
        self._end = end_of(book, rule, steps)

    @property
    def begun_now(self):
        """The pair of the book and the rule at the beginning."""
        return self._begun

    @property
    def steps_now(self):
        """The steps."""
        return self._steps

    @property
    def factor_now(self):
        """The product of the factors of the steps."""
        return self._end[0]

    @property
    def book_now(self):
        """The book at the end."""
        return self._end[1]

    @property
    def rule_now(self):
        """The rule at the end."""
        return self._end[2]

    @property
    def is_done(self):
        """Whether there are no places left."""
        return self._end[1][1] == 0

    def __len__(self):
        return len(self._steps)

    def __iter__(self):
        return iter(self._steps)

    def __contains__(self, x):
        # Only a step is compared with the steps, as True is equal to 1.
        return is_step(x) and x in self._steps

    def __eq__(self, other):
        return isinstance(other, Going) and self._begun == other._begun and self._steps == other._steps

    def __add__(self, other):
        need(stands(self.book_now, other), "step")
        book, rule = self._begun
        steps = (*self._steps, other)
        return Going(book, rule, *steps)

    def can_add(self, step):
        """Whether any value is a step that stands at the end."""
        return stands(self.book_now, step)

    def can_stand(self):
        """The set of all steps that stand at the end."""
        return steps_in(self.book_now)

    def back(self):
        """The Going without the last step."""
        need(len(self._steps) > 0, "steps")
        book, rule = self._begun
        steps = self._steps[:-1]
        return Going(book, rule, *steps)

    @classmethod
    def of(cls, book, rule):
        """The Going of steps behind which none stands."""
        need(is_book(book), "book")
        steps = brought_down(book, rule)[0]
        return Going(book, rule, *steps)


def end_of(book, rule, steps):
    """The triple (factor, book, rule) behind the steps; NotUsable for the first one that does not stand."""
    factor, left, rest = ONE, book, rule
    for k, step in enumerate(steps):
        if not stands(left, step):
            raise NotUsable("steps", k)
        number, left, rest = after_step(left, rest, step)
        factor = times(factor, number)
    return (factor, left, rest)
