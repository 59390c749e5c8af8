"""Events by form, and logs [83]."""

import unittest

from cutorclose.liveevents import is_event, is_log
from tests.livemodel import IDLE_BOOK, LONE_BOOK, NO_EVENTS
from tests.support import BAD_RULES, BOTH, FOUR, GREAT, ODD, ODD_VALUES, RING, STAR, WIDE, Case
from tests.test_bookchecker import FAULTS
from tests.test_rules import OTHER

HUGE = 10 ** 60 + 7
EVENTS = (
    ("cut", ()), ("cut", (0,)), ("cut", (0, 1, 7)), ("cut", (GREAT,)), ("cut", (5, HUGE)), ("close", ()), ("close", (2, 5)), ("take", 0),
    ("take", HUGE), ("give", 0, FOUR), ("give", GREAT, OTHER), ("merge", 0, 1), ("merge", 1, 0), ("merge", 3, 3), ("merge", HUGE, GREAT),
    ("beside", RING, ODD), ("beside", (2, 0, ()), ()), ("beside", LONE_BOOK, (FOUR,)), ("beside", WIDE, (OTHER,) * 4),
    ("beside", (7, 9, ()), (FOUR,) * 9), ("beside", IDLE_BOOK, ODD[2:]))
BEGIN = ("begin", RING, ODD)

NO_LOGS = (
    *ODD_VALUES, (), (None,), BEGIN, ["begin", RING, ODD], [BEGIN], (list(BEGIN),), (BEGIN[:2],), ((*BEGIN, ODD),), ("begin",),
    (("Begin", RING, ODD),), (("book", RING, ODD),), ((None, RING, ODD),), ((True, RING, ODD),), ((("begin",), RING, ODD),),
    (("begin", ODD, RING),), (("begin", RING),), (("take", 0),), (("beside", RING, ODD),), (("take", 0), BEGIN), (BEGIN, BEGIN),
    (BEGIN, None), (BEGIN, ("take", 0), None), (BEGIN, None, ("take", 0)), (BEGIN, ("take", 0), BEGIN), "begin")


class Events(Case):
    def test_events(self):
        for event in EVENTS:
            self.exact(is_event(event), True)
            self.exact(is_event(list(event)), False)
            self.exact(is_event(event[:-1]), False)
            self.exact(is_event((*event, event[-1])), False)
        for thing in NO_EVENTS:
            with self.subTest(thing=thing):
                self.exact(is_event(thing), False)

    def test_any_books_and_rules(self):
        for _, _, thing in FAULTS:
            self.exact(is_event(("beside", thing, ODD)), False)
        for bad in BAD_RULES:
            self.exact(is_event(("beside", RING, bad)), False)

    def test_by_name(self):
        self.exact(is_event(thing=("take", 0)), True)
        self.exact(is_log(thing=(BEGIN,)), True)


class Logs(Case):
    def test_logs(self):
        for log in ((BEGIN,), (BEGIN, *EVENTS), (("begin", (5, 0, ()), ()),), (("begin", BOTH, (FOUR,) * 6), ("take", 99)),
                    (("begin", STAR, ODD), *[("cut", ())] * 50)):
            self.exact(is_log(log), True)
            self.exact(is_log(list(log)), False)
            self.exact(is_log(log[1:]), False)
        for thing in NO_LOGS:
            with self.subTest(thing=thing):
                self.exact(is_log(thing), False)

    def test_each_event(self):
        for thing in NO_EVENTS:
            self.exact(is_log((BEGIN, thing)), False)
            self.exact(is_log((BEGIN, ("take", 0), thing, ("take", 0))), False)
        for _, _, thing in FAULTS:
            self.exact(is_log((("begin", thing, ODD),)), False)
        for bad in BAD_RULES:
            self.exact(is_log((("begin", RING, bad),)), False)


if __name__ == "__main__":
    unittest.main()
