"""A live book: a book, a rule and a factor, changed by events."""

from cutorclose.errors import InvalidEvent, NothingToUndo
from cutorclose.fitting import clash_of, fits, worth_of
from cutorclose.happenings import reason_for, states_by
from cutorclose.kinds import is_below, is_book
from cutorclose.liveevents import is_event
from cutorclose.lots import kind_at
from cutorclose.needs import need
from cutorclose.quotients import ONE, times
from cutorclose.rulekinds import need_rule


class LiveBook:
    """A book, a rule of its size and a factor, which events change."""

    MOST = 40

    def __init__(self, book, rule):
        need(is_book(book), "book")
        need_rule(book, rule)
        self._events = ()
        # The beginning, and behind it what each event that is not undone has led to.
        self._states = ((book, rule, ONE),)
        self._calls = 0

    @property
    def book_now(self):
        """The book."""
        return self._states[-1][0]

    @property
    def rule_now(self):
        """The rule."""
        return self._states[-1][1]

    @property
    def factor_now(self):
        """The factor."""
        return self._states[-1][2]

    @property
    def kinds_now(self):
        """The tuple of the kinds of all places."""
        return tuple([kind_at(self.book_now, place) for place in range(self.book_now[1])])

    @property
    def fits_now(self):
        """Whether the rule fits."""
        return fits(self.book_now, self.rule_now)

    @property
    def worth_now(self):
        """The factor times the one worth, or None."""
        return times(self.factor_now, worth_of(self.book_now, self.rule_now)) if self.fits_now else None

    @property
    def clash_now(self):
        """A clash, or None if the rule fits."""
        return clash_of(self.book_now, self.rule_now)

    def cut(self, lot):
        """Cut the book at the lot."""
        return self.go(("cut", lot))

    def close(self, lot):
        """Close the book at the lot."""
        return self.go(("close", lot))

    def take(self, place):
        """Take a place that is idle or alone."""
        return self.go(("take", place))

    def give(self, place, four):
        """Give the place these four numbers."""
        return self.go(("give", place, four))

    def merge(self, one, other):
        """Make one of two places that are alike or in a row."""
        return self.go(("merge", one, other))

    def beside(self, book, rule):
        """Put a book and its rule beside."""
        return self.go(("beside", book, rule))

    def go(self, event):
        """Apply any event; the pair of the book and the rule after it."""
        self._calls = self._calls + 1
        self._put((event,), False)
        return (self.book_now, self.rule_now)

    def barred(self, event):
        """The reason for which any value would be refused, or None."""
        return reason_for(self._states, self.MOST, event)

    def tried(self, *events):
        """The triple of the book, the rule and the factor as it would be after these events."""
        states, reason = states_by(self._states, self.MOST, events)
        if reason is not None:
            raise InvalidEvent(events[len(states) - len(self._states)], reason)
        return states[-1]

    def undo(self):
        """Take the last event back and return it."""
        self._calls = self._calls + 1
        if len(self._events) == 0:
            raise NothingToUndo(1)
        event = self._events[-1]
        self._events = self._events[:-1]
        self._states = self._states[:-1]
        return event

    def do_all(self, *events, keep=False):
        """Apply the events in order; how many there are."""
        self._calls = self._calls + 1
        need(isinstance(keep, bool), "keep")
        self._put(events, keep)
        return len(events)

    def tally(self):
        """The pair of how many calls were started and finished."""
        # A call is over before anyone can ask, with an error, too.
        return (self._calls, self._calls)

    def log(self):
        """The beginning, and the events that are not undone."""
        book, rule = self._states[0][:2]
        return (("begin", book, rule), *self._events)

    def __getitem__(self, at):
        need(is_below(len(self.rule_now), at), "place")
        return self.rule_now[at]

    def __contains__(self, x):
        # Only an event is compared with the events, as True is equal to 1.
        return is_event(x) and x in self._events

    def __len__(self):
        return len(self._events)

    def __iter__(self):
        return iter(self._events)

    def __eq__(self, other):
        return isinstance(other, LiveBook) and self.log() == other.log()

    def _put(self, events, keep):
        """Apply the events without counting; of a refusal, keep what is ahead of it, or nothing."""
        states, reason = states_by(self._states, self.MOST, events)
        many = len(states) - len(self._states)
        if reason is None or keep:
            self._events = (*self._events, *events[:many])
            self._states = states
        if reason is not None:
            raise InvalidEvent(events[many], reason)


def live_by(log):
    """The live book after the events of a log, its calls not counted yet."""
    book, rule = log[0][1:]
    live = LiveBook(book, rule)
    live._put(log[1:], False)
    return live
