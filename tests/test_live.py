"""LiveBook [84] [85] [86] [87] [88]."""

import itertools
import random
import unittest
from fractions import Fraction

from cutorclose.errors import InvalidEvent, NothingToUndo, NotUsable
from cutorclose.fitting import fits, worth_of
from cutorclose.live import LiveBook
from cutorclose.liveevents import is_log
from cutorclose.quotients import plus, times
from tests import livemodel, plain
from tests.livemodel import IDLE_BOOK, LONE_BOOK, NO_EVENTS
from tests.papers import PaperCase
from tests.support import (BAD_PLACES, BAD_RULES, BOTH, FOUR, GREAT_BOOKS, LONE, ODD, ODD_VALUES, RING, RULE_BOOKS, STAR, WIDE, refusal,
                           rules_of)
from tests.test_bookchecker import FAULTS
from tests.test_leavings import EIGHT
from tests.test_rules import OTHER

SAME = (FOUR,) * 3
EMPTY = (2, 0, ())
PAIR = (2, 2, ((1, 1),))
BESIDE = ("beside", IDLE_BOOK, (FOUR,))

# A book, a rule, an event that is refused there, and the reason: also with two faults, of which the first one counts.
REFUSED = (
    *[(RING, SAME, event, "shape") for event in NO_EVENTS],
    *[(RING, SAME, (word, lot), "place") for word in ("cut", "close") for lot in ((3,), (0, 3), (0, 1, 2, 3), (10 ** 59,), (4, 5))],
    *[(EMPTY, (), (word, (0,)), "place") for word in ("cut", "close")],
    *[(RING, SAME, (word, ()), "none") for word in ("cut", "close")], *[(EMPTY, (), (word, ()), "none") for word in ("cut", "close")],
    *[(RING, SAME, ("take", place), "place") for place in (3, 4, 10 ** 59)], (EMPTY, (), ("take", 0), "place"),
    *[(RING, SAME, ("take", place), "ordinary") for place in (0, 1, 2)], (LONE, (FOUR,) * 4, ("take", 1), "ordinary"),
    *[(RING, SAME, ("give", place, FOUR), "place") for place in (3, 10 ** 59)], (EMPTY, (), ("give", 0, OTHER), "place"),
    (RING, SAME, ("give", 0, FOUR), "same"), (RING, ODD, ("give", 2, ODD[2]), "same"),
    (RING, SAME, ("merge", 0, 3), "place"), (RING, SAME, ("merge", 3, 0), "place"), (RING, SAME, ("merge", 3, 3), "place"),
    (WIDE, (FOUR,) * 4, ("merge", 0, 4), "place"), (RING, SAME, ("merge", 0, 0), "same"), (RING, SAME, ("merge", 2, 2), "same"),
    (LONE, (FOUR,) * 4, ("merge", 0, 0), "same"), (WIDE, (FOUR,) * 4, ("merge", 0, 1), "unlike"),
    (WIDE, (FOUR,) * 4, ("merge", 3, 2), "unlike"), (LONE, (FOUR,) * 4, ("merge", 0, 1), "unlike"),
    (LONE, (FOUR,) * 4, ("merge", 0, 3), "unlike"), (BOTH, (FOUR,) * 6, ("merge", 0, 3), "unlike"),
    ((2, 2, ()), SAME[:2], ("merge", 0, 1), "unlike"), ((2, 2, ((1, 0), (0, 1))), SAME[:2], ("merge", 1, 0), "unlike"),
    (RING, SAME, ("beside", (3, 1, ()), (FOUR,)), "prime"), (RING, SAME, ("beside", (3, 0, ()), ()), "prime"),
    (RING, SAME, ("beside", (5, 8, ()), (FOUR,) * 8), "prime"), (RING, SAME, ("beside", BOTH, (FOUR,) * 6), "many"),
    (BOTH, (FOUR,) * 6, ("beside", RING, SAME), "many"), (EIGHT[0], (FOUR,) * 8, BESIDE, "many"), (EMPTY, (), ("beside", (2, 9, ()), (FOUR,) * 9), "many"),
)


class Small(LiveBook):
    """A LiveBook of a derived class, for few events."""

    MOST = 2


def state(live):
    """All that a live book has, but for its tally."""
    return (live.book_now, live.rule_now, live.factor_now, live.kinds_now, live.fits_now, live.worth_now, live.clash_now, live.log(), len(live),
            list(live))


class LiveCase(PaperCase):
    def unchanged(self, live, call):
        """The call changes nothing but the tally."""
        before = state(live)
        call()
        self.exact(state(live), before)

    def barred(self, live, event, reason, call, *args, **named):
        """The call is refused for the reason, with just this event, and changes nothing but the tally."""
        self.unchanged(live, lambda: self.refused(InvalidEvent, {"event": event, "reason": reason}, call, *args, **named))


class Creation(LiveCase):
    def test_all_that_it_tells_at_first(self):
        for book in (*RULE_BOOKS[::2], *GREAT_BOOKS, *EIGHT[:2]):
            for rule in rules_of(book[1], 1, "live")[::4]:
                live = LiveBook(book, rule)
                self.exact((live.book_now, live.rule_now, live.factor_now), (book, rule, (1, 1)))
                self.exact(live.kinds_now, tuple(plain.kind(book, place) for place in range(book[1])))
                self.exact(live.fits_now, fits(book, rule))
                if live.fits_now:
                    self.exact((live.worth_now, live.clash_now), (worth_of(book, rule), None))
                else:
                    self.exact(live.worth_now, None)
                    self.check_clash(book, rule, live.clash_now)
                self.exact((len(live), list(live), live.log(), live.tally()), (0, [], (("begin", book, rule),), (0, 0)))
                self.exact([live[place] for place in range(book[1])], list(rule))

    def test_refused_in_order(self):
        for _, _, thing in FAULTS:
            self.refused(NotUsable, refusal("book"), LiveBook, thing, SAME)
            self.refused(NotUsable, refusal("book"), LiveBook, thing, None)
        for bad in BAD_RULES:
            self.refused(NotUsable, refusal("rule"), LiveBook, RING, bad)
        self.refused(NotUsable, refusal("rule"), LiveBook, EMPTY, None)
        self.refused(NotUsable, refusal("rule"), LiveBook, EMPTY, SAME)

    def test_the_class_value(self):
        self.exact((LiveBook.MOST, LiveBook(RING, SAME).MOST), (40, 40))

    def test_items_refused(self):
        live = LiveBook(RING, ODD)
        for bad in (*BAD_PLACES, (0, 1), slice(0, 2)):
            self.refused(NotUsable, refusal("place"), lambda: live[bad])
        live.cut((0,))
        self.refused(NotUsable, refusal("place"), lambda: live[2])
        self.exact(live[1], ODD[2])
        self.refused(NotUsable, refusal("place"), lambda: LiveBook(EMPTY, ())[0])


class Reasons(LiveCase):
    def test_each_reason(self):
        self.assertEqual({reason for *_, reason in REFUSED}, {"shape", "place", "none", "ordinary", "same", "unlike", "prime", "many"})
        for book, rule, event, reason in REFUSED:
            with self.subTest(book=book, event=event):
                live = LiveBook(book, rule)
                self.exact(live.barred(event), reason)
                self.barred(live, event, reason, live.go, event)
                self.barred(live, event, reason, live.tried, event)
                self.barred(live, event, reason, live.do_all, event)
                self.barred(live, event, reason, live.do_all, event, keep=True)
                self.exact(live.tally(), (3, 3))

    def test_by_their_own_methods(self):
        methods = {"cut": 1, "close": 1, "take": 1, "give": 2, "merge": 2, "beside": 2}
        for book, rule, event, reason in REFUSED:
            if isinstance(event, tuple) and event and isinstance(event[0], str) and len(event) == methods.get(event[0], 9) + 1:
                live = LiveBook(book, rule)
                self.barred(live, event, reason, getattr(live, event[0]), *event[1:])
                self.exact(live.tally(), (1, 1))

    def test_full_comes_behind_the_shape_and_ahead_of_all_others(self):
        full = LiveBook(RING, SAME)
        for k in range(LiveBook.MOST):
            full.give(0, (FOUR, OTHER)[(k + 1) % 2])
        self.exact(len(full), 40)
        for book, rule, event, reason in REFUSED:
            if book == RING:
                wanted = "shape" if reason == "shape" else "full"
                self.exact(full.barred(event), wanted)
                self.barred(full, event, wanted, full.go, event)
        for event in (("give", 0, OTHER), ("cut", (0,)), ("merge", 0, 1), BESIDE):
            self.barred(full, event, "full", full.go, event)
            self.barred(full, event, "full", full.do_all, event)
        self.exact(full.undo(), ("give", 0, FOUR))
        self.exact(full.barred(("cut", (0,))), None)
        self.exact(len(full), 39)

    def test_full_of_a_derived_class(self):
        live = Small(RING, SAME)
        self.exact(live.do_all(("cut", (0,)), ("take", 0)), 2)
        self.barred(live, ("take", 0), "full", live.take, 0)
        self.exact(live.barred(("take", 0)), "full")
        self.refused(InvalidEvent, {"event": ("take", 0), "reason": "full"}, Small(RING, SAME).tried, ("cut", (0,)), ("take", 0), ("take", 0))

    def test_none_for_all_that_can_be(self):
        for book, rule, event in ((RING, SAME, ("cut", (0, 1, 2))), (RING, SAME, ("close", (2,))), (LONE, (FOUR,) * 4, ("take", 3)),
                                  (RING, SAME, ("give", 0, OTHER)), (RING, SAME, ("merge", 2, 0)), (STAR, SAME, ("merge", 0, 2)),
                                  (RING, SAME, ("beside", EMPTY, ())), (BOTH, (FOUR,) * 6, ("beside", PAIR, SAME[:2]))):
            live = LiveBook(book, rule)
            self.unchanged(live, lambda: self.exact(live.barred(event), None))
            self.exact(live.tally(), (0, 0))


class Events(LiveCase):
    def test_each_event(self):
        live = LiveBook(BOTH, (*SAME, FOUR, FOUR, OTHER))
        self.exact(live.cut((0, 3)), ((2, 4, ((1, 0, 0, 0), (0, 1, 0, 0), (0, 0, 1, 1))), (FOUR, FOUR, FOUR, OTHER)))
        self.exact(live.take(0), ((2, 3, ((1, 0, 0), (0, 1, 1))), (FOUR, FOUR, OTHER)))
        self.exact(live.factor_now, (3, 1))
        self.exact(live.close((1,)), ((2, 2, ((1, 0),)), (FOUR, OTHER)))
        self.exact(live.kinds_now, ("alone", "idle"))
        self.exact(live.give(0, OTHER)[1], (OTHER, OTHER))
        self.exact(live.take(1), ((2, 1, ((1,),)), (OTHER,)))
        self.exact(live.factor_now, times((3, 1), OTHER[3]))
        self.exact(live.beside(PAIR, ODD[1:]), ((2, 3, ((1, 0, 0), (0, 1, 1))), (OTHER, *ODD[1:])))
        self.exact(live.merge(2, 1), (plain.merged((2, 3, ((1, 0, 0), (0, 1, 1))), (OTHER, *ODD[1:]), "alike", 2, 1)))
        self.exact(live.take(0), ((2, 1, ((1,),)), live.rule_now))
        self.exact(live.factor_now, (0, 1))
        self.exact(len(live), 8)
        self.exact(live.tally(), (8, 8))
        self.exact(live.log()[0], ("begin", BOTH, (*SAME, FOUR, FOUR, OTHER)))
        self.exact(list(live)[:3], [("cut", (0, 3)), ("take", 0), ("close", (1,))])

    def test_alike_and_in_a_row_at_once_is_merged_as_alike(self):
        for one, other in ((0, 1), (1, 0)):
            live = LiveBook(PAIR, ODD[1:])
            self.exact(live.merge(one, other), plain.merged(PAIR, ODD[1:], "alike", one, other))
            self.exact(live.book_now, (2, 1, ((1,),)))
        live = LiveBook(RING, ODD)
        self.exact(live.merge(2, 0), plain.merged(RING, ODD, "in row", 2, 0))

    def test_rows_of_any_events(self):
        dice, met = random.Random("live"), {}
        for book in (*RULE_BOOKS[::3], RING, STAR, LONE, BOTH, WIDE):
            rule = rules_of(book[1], 1, "rows of events")[2]
            live, own = LiveBook(book, rule), (book, rule, Fraction(1))
            events, calls = [], 0
            for _ in range(16):
                event = livemodel.any_event(dice, own[0][1], book[0])
                reason = livemodel.reason(own, len(events), 40, event)
                self.exact(live.barred(event), reason)
                met[event[0], reason] = met.get((event[0], reason), 0) + 1
                calls += 1
                if reason is None:
                    own = livemodel.after(own, event)
                    self.exact(live.tried(event), livemodel.told(own))
                    self.exact(live.go(event), own[:2])
                    events.append(event)
                else:
                    self.barred(live, event, reason, live.go, event)
                self.exact((live.book_now, live.rule_now, live.factor_now), livemodel.told(own))
                self.exact((list(live), live.log(), len(live)), (events, (("begin", book, rule), *events), len(events)))
                self.exact(live.tally(), (calls, calls))
        self.assertGreater(min(met.values()), 3)
        self.assertEqual(len(met), 6 + 4 + 2 + 2 + 3 + 2)

    def test_values_of_all_kinds_are_handed_on(self):
        live = LiveBook(RING, SAME)
        event = ["take", [0]]
        with self.assertRaises(InvalidEvent) as caught:
            live.go(event)
        self.assertIs(caught.exception.event, event)
        lot = [0]
        with self.assertRaises(InvalidEvent) as caught:
            live.cut(lot)
        self.assertIs(caught.exception.event[1], lot)
        self.exact(event, ["take", [0]])

    def test_by_name(self):
        live = LiveBook(rule=SAME, book=RING)
        live.cut(lot=(0,))
        live.take(place=0)
        live.give(four=OTHER, place=0)
        live.beside(rule=SAME[:2], book=PAIR)
        live.merge(other=2, one=1)
        live.go(event=("take", 0))
        live.close(lot=(0,))
        self.exact(live.barred(event=None), "shape")
        self.exact(list(live), [("cut", (0,)), ("take", 0), ("give", 0, OTHER), ("beside", PAIR, SAME[:2]), ("merge", 1, 2), ("take", 0),
                                ("close", (0,))])
        self.exact(live.tally(), (7, 7))


class Rows(LiveCase):
    def test_undo_back_to_the_beginning(self):
        dice = random.Random("undo")
        for book in (*RULE_BOOKS[::9], BOTH, WIDE, LONE):
            rule = rules_of(book[1], 1, "undo")[2]
            live = LiveBook(book, rule)
            before = []
            for _ in range(12):
                event = livemodel.any_event(dice, live.book_now[1], book[0])
                if live.barred(event) is None:
                    before.append((state(live), event))
                    live.go(event)
            calls = live.tally()[0]
            for told, event in reversed(before):
                self.exact(live.undo(), event)
                self.exact(state(live), told)
                calls += 1
                self.exact(live.tally(), (calls, calls))
            self.exact(live == LiveBook(book, rule), True)
            self.refused(NothingToUndo, {"steps": 1}, live.undo)
            self.exact(live.tally(), (calls + 1, calls + 1))
            self.exact(state(live), state(LiveBook(book, rule)))

    def test_tried(self):
        live = LiveBook(RING, SAME)
        self.exact(live.tried(), (RING, SAME, (1, 1)))
        events = (("merge", 0, 1), ("merge", 1, 0), ("take", 0))
        self.unchanged(live, lambda: self.exact(live.tried(*events), (EMPTY, (), (14, 1))))
        self.barred(live, ("take", 0), "place", live.tried, *events, ("take", 0), None)
        self.barred(live, ("take", 0), "ordinary", live.tried, ("take", 0), *events)
        self.barred(live, None, "shape", live.tried, ("merge", 0, 1), None, ("take", 9))
        self.exact(live.tally(), (0, 0))
        gives = [("give", 0, (OTHER, FOUR)[k % 2]) for k in range(41)]
        self.exact(live.tried(*gives[:40])[1], SAME)
        self.barred(live, gives[40], "full", live.tried, *gives)
        live.go(gives[0])
        self.barred(live, gives[40], "full", live.tried, *gives[1:])

    def test_do_all(self):
        live = LiveBook(RING, SAME)
        events = (("merge", 0, 1), ("merge", 1, 0), ("take", 0))
        self.exact(live.do_all(*events), 3)
        self.exact((live.book_now, live.factor_now, list(live), live.tally()), (EMPTY, (14, 1), list(events), (1, 1)))
        self.unchanged(live, lambda: self.exact(live.do_all(), 0))
        self.unchanged(live, lambda: self.exact(live.do_all(keep=True), 0))
        self.exact(live.tally(), (3, 3))
        self.exact([live.undo() for _ in range(3)], list(reversed(events)))

    def test_do_all_refused(self):
        good = (("merge", 0, 1), ("merge", 1, 0))
        for bad, reason in ((("take", 7), "place"), (None, "shape"), (("cut", ()), "none")):
            live = LiveBook(RING, SAME)
            live.beside(IDLE_BOOK, (FOUR,))
            self.barred(live, bad, reason, live.do_all, *good, bad, ("take", 0))
            self.exact(live.tally(), (2, 2))
            self.refused(InvalidEvent, {"event": bad, "reason": reason}, live.do_all, *good, bad, None, keep=True)
            self.exact((list(live), live.tally()), ([("beside", IDLE_BOOK, (FOUR,)), *good], (3, 3)))
            self.exact(live.book_now, (2, 2, ((1, 0),)))
            self.barred(live, bad, reason, live.do_all, bad, keep=True)
            self.exact([live.undo(), live.undo()], [good[1], good[0]])

    def test_do_all_full(self):
        gives = [("give", 0, (OTHER, FOUR)[k % 2]) for k in range(41)]
        live = LiveBook(RING, SAME)
        self.barred(live, gives[40], "full", live.do_all, *gives)
        self.refused(InvalidEvent, {"event": gives[40], "reason": "full"}, live.do_all, *gives, keep=True)
        self.exact((len(live), live.rule_now, live.tally()), (40, SAME, (2, 2)))
        whole = LiveBook(RING, SAME)
        self.exact(whole.do_all(*gives[:40]), 40)
        self.exact(live == whole, True)

    def test_keep_refused(self):
        live = LiveBook(RING, SAME)
        for bad in (None, 0, 1, "", "True", (), (True,), [True]):
            for events in ((), (("cut", (0,)),), (None,)):
                self.unchanged(live, lambda: self.refused(NotUsable, refusal("keep"), live.do_all, *events, keep=bad))
        self.exact(live.tally(), (24, 24))
        # By position it is an event.
        self.barred(live, True, "shape", live.do_all, True)

    def test_what_counts_nothing(self):
        live = LiveBook(RING, ODD)
        self.unchanged(live, lambda: [live.barred(None), live.tried(), live.tally(), live.log(), live[0], ("take", 0) in live, len(live),
                                      list(live), live == live, live != live, live.MOST])
        self.exact(live.tally(), (0, 0))


class Comparing(LiveCase):
    def test_contains(self):
        live = LiveBook(RING, SAME)
        live.do_all(("give", 0, OTHER), ("cut", (1,)), ("take", 1))
        for event in (("give", 0, OTHER), ("cut", (1,)), ("take", 1)):
            self.exact(event in live, True)
            self.exact(list(event) in live, False)
        for thing in (*NO_EVENTS, ("take", 0), ("take", True), ("cut", (True,)), ("give", False, OTHER), ("close", (1,)), ("cut", (0,))):
            self.exact(thing in live, False)
        live.undo()
        self.exact(("take", 1) in live, False)

    def test_equal(self):
        rows = [(RING, SAME), (RING, ODD), (STAR, SAME), (RING, SAME, ("cut", (0,))), (RING, SAME, ("cut", (1,))), (RING, SAME, ("close", (0,))),
                (RING, SAME, ("cut", (0,)), ("take", 0)), (RING, SAME, ("cut", (0,)), ("take", 1)), (EMPTY, ()), ((3, 0, ()), ())]
        lives = []
        for book, rule, *events in rows:
            live = LiveBook(book, rule)
            live.do_all(*events)
            lives.append(live)
        for (j, one), (k, other) in itertools.product(enumerate(lives), repeat=2):
            self.exact(one == other, j == k)
            self.exact(one != other, j != k)
        again = LiveBook(RING, SAME)
        again.cut((0,))
        again.take(0)
        again.undo()
        # The tally does not matter, nor the class.
        self.exact(again == lives[3], True)
        self.exact(Small(RING, SAME) == lives[0], True)
        self.exact(lives[0] == Small(RING, SAME), True)
        for thing in (*ODD_VALUES, RING, (RING, SAME), lives[3].log()):
            self.exact(lives[3] == thing, False)

    def test_logs_are_logs(self):
        live = LiveBook(BOTH, (FOUR,) * 6)
        self.exact(is_log(live.log()), True)
        live.do_all(("merge", 3, 5), ("beside", LONE_BOOK, (OTHER,)), ("close", (2, 4)))
        self.exact(is_log(live.log()), True)
        self.exact(live.log(), (("begin", BOTH, (FOUR,) * 6), ("merge", 3, 5), ("beside", LONE_BOOK, (OTHER,)), ("close", (2, 4))))

    def test_what_is_handed_out_belongs_to_the_caller(self):
        live = LiveBook(RING, SAME)
        live.cut((0,))
        list(live).clear()
        self.exact(list(live), [("cut", (0,))])
        for name in ("book_now", "rule_now", "factor_now", "kinds_now", "fits_now", "worth_now", "clash_now"):
            with self.assertRaises(AttributeError):
                setattr(live, name, ())

    def test_no_places(self):
        live = LiveBook((5, 0, ()), ())
        self.exact((live.kinds_now, live.fits_now, live.worth_now, live.clash_now), ((), True, (1, 1), None))
        self.exact(live.beside((5, 1, ((1,),)), (FOUR,)), ((5, 1, ((1,),)), (FOUR,)))
        self.exact(live.worth_now, (3, 1))

    def test_two_live_books_do_not_share(self):
        one, other = LiveBook(RING, SAME), LiveBook(RING, SAME)
        one.cut((0,))
        self.exact((len(other), other.tally(), other.book_now), (0, (0, 0), RING))


class Consequences(LiveCase):
    def fitting(self, salt):
        """Live books whose rules fit."""
        for book in (*RULE_BOOKS[::2], RING, STAR, LONE, BOTH, WIDE):
            for rule in rules_of(book[1], 1, salt):
                if fits(book, rule):
                    yield LiveBook(book, rule)

    def test_take_and_merge_leave_the_worth(self):
        met = 0
        for live in self.fitting("leave"):
            worth = live.worth_now
            for step in plain.standing(live.book_now):
                event = step if step[0] == "take" else ("merge", *step[1:])
                self.exact(live.go(event), (live.book_now, live.rule_now))
                self.exact((live.fits_now, live.worth_now, live.clash_now), (True, worth, None))
                live.undo()
                met += 1
        self.assertGreater(met, 500)

    def test_it_goes_on_fitting(self):
        for live in self.fitting("goes on"):
            size = live.book_now[1]
            for lot in list(itertools.combinations(range(size), 1)) + list(itertools.combinations(range(size), 2))[::2]:
                for event in (("cut", lot), ("close", lot)):
                    live.go(event)
                    self.exact(live.fits_now, True)
                    live.undo()

    def test_beside(self):
        for live in itertools.islice(self.fitting("beside"), 0, None, 4):
            worth, prime = live.worth_now, live.book_now[0]
            for other in ((prime, 0, ()), (prime, 1, ()), (prime, 1, ((1,),)), (prime, 2, ((1, 1),))):
                for rule in rules_of(other[1], 1, "put beside")[::2]:
                    live.beside(other, rule)
                    self.exact(live.fits_now, fits(other, rule))
                    self.exact(live.worth_now, times(worth, worth_of(other, rule)) if fits(other, rule) else None)
                    live.undo()

    def test_both_ways(self):
        met = 0
        for live in self.fitting("both ways"):
            for place, kind in enumerate(live.kinds_now):
                if kind != "ordinary":
                    continue
                closed, cut = live[place][:2]
                told = []
                for event in (("close", (place,)), ("cut", (place,))):
                    live.go(event)
                    told.append(live.worth_now)
                    live.undo()
                self.exact(live.worth_now, plus(times(closed, told[0]), times(cut, told[1])))
                met += 1
        self.assertGreater(met, 500)

    def test_also_behind_other_events(self):
        live = LiveBook(LONE, (FOUR,) * 4)
        live.take(3)
        self.exact((live.factor_now, live.worth_now), ((2, 1), (30, 1)))
        live.merge(1, 2)
        self.exact((live.factor_now, live.worth_now), ((2, 1), (30, 1)))
        live.give(0, ((1, 1), (1, 1), (1, 2), (2, 1)))
        self.exact(live.worth_now, (5, 1))


if __name__ == "__main__":
    unittest.main()
