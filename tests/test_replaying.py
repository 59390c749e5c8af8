"""Logs replayed, written as lines and read again [89]."""

import random
import unittest

from cutorclose.errors import InvalidEvent, NotUsable
from cutorclose.eventreadings import read_log
from cutorclose.eventtexts import log_lines
from cutorclose.live import LiveBook
from cutorclose.replaying import replayed
from tests import livemodel
from tests.livemodel import NO_EVENTS
from tests.support import BOTH, FOUR, LONE, RING, RULE_BOOKS, WIDE, Case, refusal, rules_of
from tests.test_live import REFUSED, SAME, state
from tests.test_liveevents import BEGIN, NO_LOGS
from tests.test_rules import OTHER


class Replaying(Case):
    def test_logs_of_live_books(self):
        dice = random.Random("replayed")
        for book in (*RULE_BOOKS[::7], BOTH, WIDE, LONE):
            live = LiveBook(book, rules_of(book[1], 1, "replayed")[2])
            for _ in range(12):
                event = livemodel.any_event(dice, live.book_now[1], book[0])
                if live.barred(event) is None:
                    live.go(event)
            told = replayed(live.log())
            self.assertIs(type(told), LiveBook)
            self.exact(told == live, True)
            self.exact((state(told), told.tally()), (state(live), (0, 0)))
            again = replayed(read_log(log_lines(live.log())))
            self.exact((state(again), again.tally()), (state(live), (0, 0)))
            # Undone back to the beginning, one by one.
            while len(told) > 0:
                self.exact(told.undo(), live.undo())
                self.exact(state(told), state(live))

    def test_each_is_new(self):
        log = (BEGIN, ("cut", (0,)))
        one, other = replayed(log), replayed(log)
        one.take(0)
        self.exact((len(one), len(other), other.tally()), (2, 1, (0, 0)))
        self.exact(one.tally(), (1, 1))
        self.exact(replayed((BEGIN,)) == LiveBook(*BEGIN[1:]), True)
        self.exact(replayed((("begin", (3, 0, ()), ()),)).log(), (("begin", (3, 0, ()), ()),))

    def test_the_first_event_that_is_refused(self):
        for book, rule, event, reason in REFUSED:
            if reason != "shape":
                begin = ("begin", book, rule)
                self.refused(InvalidEvent, {"event": event, "reason": reason}, replayed, (begin, event))
                self.refused(InvalidEvent, {"event": event, "reason": reason}, replayed, (begin, event, ("take", 99)))
        self.refused(InvalidEvent, {"event": ("take", 2), "reason": "place"}, replayed,
                     (("begin", RING, SAME), ("cut", (0,)), ("take", 2), ("take", 9)))

    def test_forty_events(self):
        gives = [("give", 0, (OTHER, FOUR)[k % 2]) for k in range(41)]
        self.exact(len(replayed((("begin", RING, SAME), *gives[:40]))), 40)
        self.refused(InvalidEvent, {"event": gives[40], "reason": "full"}, replayed, (("begin", RING, SAME), *gives))

    def test_refused(self):
        for bad in NO_LOGS:
            self.refused(NotUsable, refusal("log"), replayed, bad)
        for event in NO_EVENTS:
            self.refused(NotUsable, refusal("log"), replayed, (BEGIN, ("take", 99), event))

    def test_by_name(self):
        self.exact(len(replayed(log=(BEGIN,))), 0)


if __name__ == "__main__":
    unittest.main()
