"""The shape of a book as an object: its parts, knots and bonds."""

from cutorclose.bookchecker import lets_book
from cutorclose.books import checks_of
from cutorclose.kinds import is_lot
from cutorclose.knots import bonds_of, knots_of
from cutorclose.leavings import pair_left, ring_left, star_left
from cutorclose.lots import kind_at
from cutorclose.needs import need, need_two_places
from cutorclose.partings import adds_up, part_at, parts_of


class Shape:
    """A book's shape, which never changes."""

    def __init__(self, book):
        lets_book(book)
        self._form = book
        self._parts = parts_of(book)

    @property
    def form_now(self):
        """The book."""
        return self._form

    @property
    def parts_now(self):
        """The set of its parts."""
        return self._parts

    @property
    def knots_now(self):
        """The set of its knots."""
        return knots_of(self._form)

    @property
    def bonds_now(self):
        """The set of its bonds."""
        return bonds_of(self._form)

    def __getitem__(self, at):
        return part_at(self._form, at)

    def __call__(self, lot):
        return adds_up(self._form, lot)

    def kinds(self):
        """A tuple of the kinds of all places."""
        return tuple([kind_at(self._form, place) for place in range(self._form[1])])

    def pair(self, place, other):
        """A lot by which, closed, both places are left as a pair, or None."""
        need_two_places(self._form[1], place, other, "place")
        return pair_left(self._form, place, other)

    def ring(self, lot):
        """A lot by which, closed, the three places are left as a ring, or None."""
        return ring_left(self._form, lot)

    def star(self, lot):
        """A lot by which, closed, the three places are left as a star, or None."""
        return star_left(self._form, lot)

    def __contains__(self, x):
        # Only a lot is compared with the parts, as (True,) is equal to (1,).
        return is_lot(self._form[1], x) and x in self._parts

    def __len__(self):
        return len(self._parts)

    def __iter__(self):
        return iter(self._parts)

    def __invert__(self):
        return Shape(checks_of(self._form))

    def __eq__(self, other):
        return isinstance(other, Shape) and self._form == other._form

    def like(self, other):
        """Whether the other Shape has the same parts, knots and bonds."""
        need(isinstance(other, Shape), "other")
        if self.parts_now != other.parts_now or self.knots_now != other.knots_now:
            return False
        return self.bonds_now == other.bonds_now
