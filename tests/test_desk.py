"""Desk [92]."""

import random
import unittest

from cutorclose.booktexts import book_line
from cutorclose.desk import Desk
from cutorclose.errors import InvalidEvent, InvalidRow, NothingToUndo
from cutorclose.eventtexts import event_line
from cutorclose.live import LiveBook
from cutorclose.ruletexts import rule_line
from tests import livemodel, test_eventlines
from tests.support import BOTH, GREAT_BOOKS, LONE, ODD, ODD_VALUES, RING, RULE_BOOKS, STAR, WIDE, Case, rules_of
from tests.test_live import REFUSED, SAME
from tests.test_rules import OTHER

ROWS = ("undo", "book", "rule", "factor", "worth", "kinds", "fits", "events", "log")
TOLD = ROWS[1:]

# Rows that are none, for a desk that has a live book.
NO_ROWS = ("", " ", "\n", "-", "ok", "say book", "Book", "BOOK", "book ", " book", "book\n", "books", "boo", "worth 1", "worth ", "undo 1", "undo ",
           "kinds 0", "fits?", "events 1", "log 0", "logs", "factor\n", "rule 1 1 3 2", "book 2 0", "tally", "counts", "clash", "bars", "bars ",
           "bars  take 0", "bars undo", "bars log", "bars bars take 0", "bars take", "bars take x", "bars take 0 ", "bars take 0\n", "bars begin",
           "bars begin book 2 0 rule", "barstake 0", "bars take 01", "Bars take 0", "bar take 0", "begin", "begin ", "begin rule", "beginbook 2 0 rule",
           "begin book 2 0", "begin book 2 0 ", "begin book 2 0 rule ", "begin book 2 0 rule 1", "begin  book 2 0 rule", "begin book 2 1 rule",
           "begin book 2 1 rule 1 1 3", "begin book 2 1 rule 1 1 3 2 1", "begin book 2 1 / 0 rule 1 1 3 2", "begin book 4 0 rule",
           "begin book 2 0 rule\n", "begin book 2 0 rule book 2 0 rule", "begin begin book 2 0 rule", "Begin book 2 0 rule", "take 0\ntake 0",
           "begin take 0", "begin rule book 2 0", "begin book 2 1 / 1 rule 1 1 3 2/4")


def begin(book, rule):
    return f"begin {book_line(book)} {rule_line(rule)}"


def number(quotient):
    top, bottom = quotient
    return str(top) if bottom == 1 else f"{top}/{bottom}"


def answers(live):
    """What a desk with this live book says to each row that only asks."""
    worth = live.worth_now
    return [book_line(live.book_now), rule_line(live.rule_now), number(live.factor_now), "-" if worth is None else number(worth),
            " ".join(live.kinds_now) or "-", "yes" if live.fits_now else "no", str(len(live)),
            " / ".join(map(event_line, live)) or "-"]


class Rows(Case):
    def same_as(self, desk, live):
        self.exact([desk.say(row) for row in TOLD], answers(live))

    def test_begin(self):
        for book in (*RULE_BOOKS[::5], *GREAT_BOOKS):
            rule = rules_of(book[1], 1, "desk")[3 if book[1] % 2 else 0]
            desk = Desk()
            self.exact(desk.say(begin(book, rule)), "ok")
            self.same_as(desk, LiveBook(book, rule))
            self.exact(desk.counts(), (9, 9))

    def test_each_row(self):
        desk = Desk()
        self.exact(desk.say("begin book 2 3 / 1 0 1 / 0 1 1 rule 1 1 3 2 1 1 3 2 1 1 3 2"), "ok")
        self.exact([desk.say(row) for row in TOLD], ["book 2 3 / 1 0 1 / 0 1 1", "rule 1 1 3 2 1 1 3 2 1 1 3 2", "1", "14",
                                                     "ordinary ordinary ordinary", "yes", "0", "-"])
        self.exact([desk.say(row) for row in ("cut 0", "bars take 9", "bars take 0", "take 0", "events", "factor", "worth", "log")],
                   ["2", "place", "-", "1", "2", "3", "9", "cut 0 / take 0"])
        self.exact([desk.say(row) for row in ("give 0 1/2 0 1/3 0", "beside book 2 1 rule 1 1 3 -1/2", "kinds", "worth", "close 0", "factor")],
                   ["1", "2", "alone idle", "-1/2", "1", "3"])
        self.exact([desk.say(row) for row in ("take 0", "kinds", "book", "rule", "worth", "factor", "events")],
                   ["0", "-", "book 2 0", "rule", "-3/2", "-3/2", "6"])
        self.exact(desk.say("log"), "cut 0 / take 0 / give 0 1/2 0 1/3 0 / beside book 2 1 rule 1 1 3 -1/2 / close 0 / take 0")
        self.exact([desk.say("undo") for _ in range(6)], ["take 0", "close 0", "beside book 2 1 rule 1 1 3 -1/2", "give 0 1/2 0 1/3 0", "take 0",
                                                          "cut 0"])
        self.exact([desk.say("log"), desk.say("events"), desk.say("worth")], ["-", "0", "14"])

    def test_rows_of_any_events(self):
        dice = random.Random("desk")
        for book in (*RULE_BOOKS[::11], BOTH, WIDE, LONE):
            rule = rules_of(book[1], 1, "desk rows")[2]
            desk, live = Desk(), LiveBook(book, rule)
            desk.say(begin(book, rule))
            calls = 1
            for _ in range(14):
                event = livemodel.any_event(dice, live.book_now[1], book[0])
                reason = live.barred(event)
                self.exact(desk.say("bars " + event_line(event)), "-" if reason is None else reason)
                if reason is None:
                    live.go(event)
                    self.exact(desk.say(event_line(event)), str(live.book_now[1]))
                else:
                    self.refused(InvalidEvent, {"event": event, "reason": reason}, desk.say, event_line(event))
                self.same_as(desk, live)
                calls += 10
                self.exact(desk.counts(), (calls, calls))
            while len(live) > 0:
                self.exact(desk.say("undo"), event_line(live.undo()))
                self.same_as(desk, live)
            self.refused(NothingToUndo, {"steps": 1}, desk.say, "undo")
            self.same_as(desk, live)

    def test_errors_of_the_live_book(self):
        for book, rule, event, reason in REFUSED:
            if reason != "shape":
                desk = Desk()
                desk.say(begin(book, rule))
                self.exact(desk.say("bars " + event_line(event)), reason)
                self.refused(InvalidEvent, {"event": event, "reason": reason}, desk.say, event_line(event))
                self.same_as(desk, LiveBook(book, rule))

    def test_forty_events(self):
        desk = Desk()
        desk.say(begin(RING, SAME))
        for k in range(40):
            self.exact(desk.say("give 0 1 1 4 2" if k % 2 == 0 else "give 0 1 1 3 2"), "3")
        self.exact(desk.say("bars cut 0"), "full")
        self.refused(InvalidEvent, {"event": ("cut", (0,)), "reason": "full"}, desk.say, "cut 0")
        self.exact((desk.say("events"), desk.say("undo"), desk.say("cut 0")), ("40", "give 0 1 1 3 2", "2"))

    def test_a_new_live_book(self):
        desk = Desk()
        desk.say(begin(RING, SAME))
        desk.say("cut 0")
        self.exact(desk.say(begin(STAR, ODD)), "ok")
        self.same_as(desk, LiveBook(STAR, ODD))
        self.refused(NothingToUndo, {"steps": 1}, desk.say, "undo")
        self.exact(desk.say(begin((7, 0, ()), ())), "ok")
        self.exact([desk.say(row) for row in TOLD], ["book 7 0", "rule", "1", "1", "-", "yes", "0", "-"])


class Refused(Case):
    def test_rows_that_cannot_be_read(self):
        desk, live = Desk(), LiveBook(RING, SAME)
        desk.say(begin(RING, SAME))
        desk.say("merge 2 0")
        live.merge(2, 0)
        calls = 2
        for row in (*NO_ROWS, *[text for text, _ in test_eventlines.FAULTS
                                if text not in ROWS and not text.startswith(("bars ", "begin "))]):
            with self.subTest(row=row):
                self.refused(InvalidRow, {"row": row}, desk.say, row)
                calls += 1
                self.exact(desk.counts(), (calls, calls))
        self.exact([desk.say(row) for row in TOLD], answers(live))

    def test_lines_that_cannot_be_read(self):
        desk = Desk()
        desk.say(begin(RING, SAME))
        for text, _ in test_eventlines.FAULTS:
            self.refused(InvalidRow, {"row": "bars " + text}, desk.say, "bars " + text)
        for text, _ in test_eventlines.FAULTS:
            if text.startswith("beside"):
                self.refused(InvalidRow, {"row": "begin" + text[6:]}, desk.say, "begin" + text[6:])
        self.exact(desk.say("worth"), "14")

    def test_any_value(self):
        for desk in (Desk(), Desk()):
            for row in (*ODD_VALUES, (), ("take", 0), ("worth",), ["worth"]):
                self.refused(InvalidRow, {"row": row}, desk.say, row)
            desk.say(begin(RING, SAME))
            for row in (*[thing for thing in ODD_VALUES if thing != "book"], ("take", 0), ("worth",), ["worth"]):
                self.refused(InvalidRow, {"row": row}, desk.say, row)
            row = ["worth"]
            with self.assertRaises(InvalidRow) as caught:
                desk.say(row)
            self.assertIs(caught.exception.row, row)

    def test_without_a_live_book(self):
        desk, calls = Desk(), 0
        for row in (*ROWS, *NO_ROWS, "take 0", "cut", "cut 0", "bars take 0", "merge 0 1", "beside book 2 0 rule"):
            self.refused(InvalidRow, {"row": row}, desk.say, row)
            calls += 1
        self.exact(desk.counts(), (calls, calls))
        self.exact(desk.say(begin(RING, SAME)), "ok")
        self.exact(desk.counts(), (calls + 1, calls + 1))

    def test_a_row_of_begin_that_cannot_be_read(self):
        desk, live = Desk(), LiveBook(RING, SAME)
        desk.say(begin(RING, SAME))
        desk.say("cut 0")
        live.cut((0,))
        for row in [row for row in NO_ROWS if row.startswith("begin")]:
            self.refused(InvalidRow, {"row": row}, desk.say, row)
            self.exact([desk.say(each) for each in TOLD], answers(live))

    def test_counts(self):
        desk = Desk()
        self.exact([desk.counts(), desk.counts()], [(0, 0), (0, 0)])
        desk.say(begin(RING, SAME))
        for row, wanted in (("worth", 2), ("cut 0", 3)):
            desk.say(row)
            self.exact(desk.counts(), (wanted, wanted))
        self.refused(InvalidEvent, {"event": ("cut", (9,)), "reason": "place"}, desk.say, "cut 9")
        self.refused(InvalidRow, {"row": "cut x"}, desk.say, "cut x")
        desk.say("undo")
        self.refused(NothingToUndo, {"steps": 1}, desk.say, "undo")
        self.exact(desk.counts(), (7, 7))

    def test_two_desks_do_not_share(self):
        one, other = Desk(), Desk()
        one.say(begin(RING, SAME))
        self.refused(InvalidRow, {"row": "worth"}, other.say, "worth")
        self.exact((one.counts(), other.counts()), ((1, 1), (1, 1)))
        self.exact(one.say(row="give 0 " + rule_line((OTHER,))[5:]), "3")
        self.exact(one.say(row="log"), "give 0 " + rule_line((OTHER,))[5:])


if __name__ == "__main__":
    unittest.main()
