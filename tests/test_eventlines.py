"""Events and logs written and read as lines [90] [91]."""

import random
import unittest

from cutorclose.errors import InvalidText, NotUsable
from cutorclose.eventreadings import read_event, read_log
from cutorclose.eventtexts import event_line, log_lines
from cutorclose.liveevents import is_event, is_log
from tests import livemodel, test_lines, test_rulelines
from tests.livemodel import IDLE_BOOK, LONE_BOOK, NO_EVENTS
from tests.support import BOTH, FOUR, GREAT, ODD, RING, STAR, WIDE, Case, refusal
from tests.test_liveevents import BEGIN, EVENTS, HUGE, NO_LOGS
from tests.test_rules import OTHER

NINES = "9" * 60
LONG = "1" + "0" * 60
NO_STRINGS = (None, True, 0, (), ("take 0",), ["take 0"], ("take", 0))

# An event and its line.
LINES = (
    (("cut", ()), "cut"), (("close", ()), "close"), (("cut", (0,)), "cut 0"), (("cut", (0, 2)), "cut 0 2"), (("close", (1, 5, 10)), "close 1 5 10"),
    (("cut", (GREAT,)), "cut " + NINES), (("take", 0), "take 0"), (("take", 12), "take 12"), (("take", GREAT), "take " + NINES),
    (("give", 0, FOUR), "give 0 1 1 3 2"), (("give", 3, ((1, 2), (-3, 1), (0, 1), (-GREAT, 2))), "give 3 1/2 -3 0 -" + NINES + "/2"),
    (("merge", 0, 1), "merge 0 1"), (("merge", 7, 7), "merge 7 7"), (("merge", 10, 2), "merge 10 2"),
    (("beside", (2, 0, ()), ()), "beside book 2 0 rule"), (("beside", IDLE_BOOK, (FOUR,)), "beside book 2 1 rule 1 1 3 2"),
    (("beside", LONE_BOOK, (OTHER,)), "beside book 2 1 / 1 rule 1/2 -3 0 " + NINES + "/2"),
    (("beside", RING, ODD), "beside book 2 3 / 1 0 1 / 0 1 1 rule 1 1 3 2 1 1 3 2 1 1 4 2"),
)

# A line and the field of its first fault.
FAULTS = (
    # The first word.
    ("", 0), (" ", 0), ("\n", 0), ("Cut", 0), ("cuts 0", 0), ("cut\n", 0), (" take 0", 0), ("0", 0), ("begin book 2 0 rule", 0), ("book 2 0", 0),
    ("rule", 0), ("undo", 0), ("log", 0), ("go 0", 0), ("alike 0 1", 0), ("take\n0", 0), ("begin", 0), ("bars take 0", 0),
    # The places of a lot, which ascend.
    ("cut ", 1), ("close ", 1), ("cut x", 1), ("cut -1", 1), ("cut 00", 1), ("cut 01", 1), ("cut +1", 1), ("cut 1/2", 1), ("cut 0 ", 2),
    ("cut  0", 1), ("cut 0  1", 2), ("cut 0 0", 2), ("cut 1 0", 2), ("close 0 2 1", 3), ("close 0 1 1 x", 3), ("close 0 1 x 1", 3), ("cut 2 10 9", 3),
    ("cut 0\n", 1), ("cut 0 1\n", 2), ("cut " + LONG, 1), ("cut 0 " + LONG, 2), ("cut 0 1 / 2", 3), ("cut 5 " + NINES + " " + NINES, 3),
    # A place.
    ("take", 1), ("take ", 1), ("take x", 1), ("take -1", 1), ("take 01", 1), ("take 0 ", 2), ("take 0 1", 2), ("take 0 x", 2), ("take  0", 1),
    ("take 0\n", 1), ("take " + LONG, 1), ("take " + LONG + " x", 1), ("take (0)", 1), ("take 1/2", 1), ("take x y", 1),
    # Two of them.
    ("merge", 1), ("merge 0", 2), ("merge 0 ", 2), ("merge  0 1", 1), ("merge 0 x", 2), ("merge x 0", 1), ("merge x", 1), ("merge 0 1 ", 3),
    ("merge 0 1 2", 3), ("merge 0 1\n", 2), ("merge 0 -1", 2), ("merge " + LONG + " 0", 1), ("merge 0 " + LONG, 2),
    # A place and its four numbers.
    ("give", 1), ("give 0", 2), ("give 0 1", 3), ("give 0 1 1", 4), ("give 0 1 1 3", 5), ("give 0 1 1 3 2 ", 6), ("give 0 1 1 3 2 1", 6),
    ("give x 1 1 3 2", 1), ("give -1 1 1 3 2", 1), ("give 1/2 1 1 3 2", 1), ("give 0 1 1 3 2/4", 5), ("give 0 1 1 -0 2", 4), ("give 0 ", 2),
    ("give 0 1/1 1 3 2", 2), ("give  1 1 3 2", 1), ("give 0 1 1 3 2\n", 5), ("give " + LONG + " 1 1 3 2", 1), ("give 0 " + LONG + " 1 3 2", 2),
    ("give 0 1/" + LONG + " 1 3 2", 2), ("give 0 x", 2), ("give 0 1 x", 3), ("give 0 1 1 3 2 x", 6), ("give 0 rule 1 1 3 2", 2),
    *[(f"give 0 1 {word} 3 2", 3) for word in test_rulelines.NO_NUMBERS if " " not in word],
    # A book, as in its own line, and a rule behind it.
    ("beside", 1), ("beside ", 1), ("beside rule", 1), ("beside  book 2 0 rule", 1), ("beside book", 2), ("beside book 2", 3), ("beside book 2 0", 4),
    ("beside book 2 1", 4), ("beside book 2 1 / 1", 6), ("beside book 2 1 / 1 ", 6), ("beside book 2 1 / 1 / 1", 6), ("beside book 2 1 rule", 5),
    ("beside book 2 1 / rule", 5), ("beside book 2 1 / rule 1 1 3 2", 5), ("beside book rule", 2), ("beside book 2 rule", 3),
    ("beside book 2 1 / 0 rule 1 1 3 2", 4), ("beside book 2 2 / 1 rule", 6), ("beside book 2 2 / 1 0 / 1 1 rule", 7),
    ("beside book 2 0 rule ", 5), ("beside book 2 0 rule 1", 5), ("beside book 2 0 rules", 4), ("beside book 2 0 Rule", 4), ("beside book 2 0 rule\n", 4),
    ("beside book 2 1 rule 1", 6), ("beside book 2 1 rule 1 1 3", 8), ("beside book 2 1 rule 1 1 3 2 ", 9), ("beside book 2 1 rule 1 1 3 2 1", 9),
    ("beside book 2 1 rule 1 1 3 2 1 1 3 2", 9), ("beside book 2 2 rule 1 1 3 2", 9), ("beside book 2 2 rule 1 1 3 2 x", 9),
    ("beside book 2 1 rule 1 1 2/4 2 1", 7), ("beside book 2 1 rule 1 1 3 2 x", 9), ("beside book 2 1 rule rule 1 1 3 2", 5),
    ("beside rule 1 1 3 2 book 2 1", 1), ("beside book 4 1 rule", 2), ("beside book 2 " + NINES + " rule", 5),
    ("beside book 2 " + NINES + " rule 1 1", 7), ("beside book 2 " + LONG + " rule", 3), ("beside book 2 1 rule 1 1 3 " + LONG, 8),
    ("beside book 2 " + NINES + " rule 1 x", 6),
    *[("beside " + text, field + 1) for text, field in test_lines.FAULTS if "rule" not in text],
    *[("beside book 2 2 / 1 1 " + text, field + 7) for text, field in test_rulelines.FAULTS if field < 9],
)


class Events(Case):
    def test_written(self):
        for event, line in LINES:
            self.exact(event_line(event), line)
            self.exact(read_event(line), event)

    def test_read_what_is_written(self):
        dice = random.Random("lines")
        for prime in (2, 3, 5, 7):
            for size in range(9):
                for _ in range(10):
                    event = livemodel.any_event(dice, size, prime)
                    self.exact(read_event(event_line(event)), event)

    def test_long_numbers_are_written_but_not_read(self):
        for event, line, field in ((("take", HUGE), f"take {HUGE}", 1), (("cut", (0, HUGE)), f"cut 0 {HUGE}", 2), (("merge", HUGE, 0), f"merge {HUGE} 0", 1),
                                   (("give", 0, ((1, HUGE), *FOUR[1:])), f"give 0 1/{HUGE} 1 3 2", 2),
                                   (("give", 0, ((-HUGE, 1), *FOUR[1:])), f"give 0 -{HUGE} 1 3 2", 2)):
            self.exact(is_event(event), True)
            self.exact(event_line(event), line)
            self.refused(InvalidText, {"line": 0, "field": field}, read_event, line)

    def test_the_field_of_each_fault(self):
        for text, field in FAULTS:
            with self.subTest(text=text):
                self.refused(InvalidText, {"line": 0, "field": field}, read_event, text)

    def test_each_change_of_one_word(self):
        for _, line in LINES[1:]:
            words = line.split(" ")
            for at in range(len(words)):
                for word in ("", "x", "/", "0", "1", "2", "-1", "1/2", "rule", "00"):
                    changed = [*words[:at], word, *words[at + 1:]]
                    try:
                        event = read_event(" ".join(changed))
                    except InvalidText as error:
                        self.exact(error.line, 0)
                        self.assertLessEqual(error.field, len(words))
                    else:
                        self.exact(is_event(event), True)
                        self.exact(event_line(event), " ".join(changed))

    def test_refused(self):
        for bad in NO_EVENTS:
            self.refused(NotUsable, refusal("event"), event_line, bad)
        for bad in NO_STRINGS:
            self.refused(NotUsable, refusal("text"), read_event, bad)


class Logs(Case):
    def test_written(self):
        lines = log_lines((BEGIN, *[event for event, _ in LINES]))
        self.exact(lines, ["book 2 3 / 1 0 1 / 0 1 1", "rule 1 1 3 2 1 1 3 2 1 1 4 2", *[line for _, line in LINES]])
        self.exact(log_lines((("begin", (5, 0, ()), ()),)), ["book 5 0", "rule"])
        self.exact(log_lines((BEGIN, *EVENTS))[2:], [event_line(event) for event in EVENTS])

    def test_read_what_is_written(self):
        dice = random.Random("logs")
        for book, rule in ((RING, ODD), (STAR, ODD), (WIDE, (OTHER,) * 4), (BOTH, (FOUR,) * 6), ((7, 0, ()), ())):
            for many in range(6):
                log = (("begin", book, rule), *[livemodel.any_event(dice, book[1], book[0]) for _ in range(many)])
                self.exact(is_log(log), True)
                lines = log_lines(log)
                self.exact(read_log(lines), log)
                self.exact(lines, log_lines(log))

    def test_no_lines_and_one_alone(self):
        for lines, line, field in (([], 0, 0), (["book 2 0"], 1, 0), (["book 2 3 / 1 0 1 / 0 1 1"], 1, 0), ([""], 0, 0), (["rule"], 0, 0),
                                   (["book 2"], 0, 2), (["book 2 1 / 0"], 0, 3), (["book 2 0 rule"], 0, 3), (["take 0"], 0, 0)):
            self.refused(InvalidText, {"line": line, "field": field}, read_log, lines)

    def test_the_line_and_the_field_of_each_fault(self):
        book, rule = "book 2 1 / 1", "rule 1 1 3 2"
        for text, field in test_lines.FAULTS:
            if "\n" not in text:
                self.refused(InvalidText, {"line": 0, "field": field}, read_log, [text, rule])
                self.refused(InvalidText, {"line": 0, "field": field}, read_log, [text])
                self.refused(InvalidText, {"line": 0, "field": field}, read_log, [text, "x", "x"])
        for text, field in test_rulelines.FAULTS:
            if "\n" not in text and field < 5:
                self.refused(InvalidText, {"line": 1, "field": field}, read_log, [book, text])
                self.refused(InvalidText, {"line": 1, "field": field}, read_log, [book, text, "x"])
        for text, field in FAULTS:
            if "\n" not in text:
                self.refused(InvalidText, {"line": 2, "field": field}, read_log, [book, rule, text])
                self.refused(InvalidText, {"line": 4, "field": field}, read_log, [book, rule, "cut", "take 5", text, "x"])

    def test_a_rule_of_another_size(self):
        rules = ["rule" + " 1 1 3 2" * many for many in range(4)]
        for size in range(4):
            for many in range(4):
                lines = [f"book 3 {size}", rules[many]]
                if many == size:
                    self.exact(read_log(lines), (("begin", (3, size, ()), (FOUR,) * size),))
                else:
                    # Too many fours: the first word of what is too much; too few: the number of words.
                    field = 1 + 4 * min(many, size)
                    self.refused(InvalidText, {"line": 1, "field": field}, read_log, lines)
                    self.refused(InvalidText, {"line": 1, "field": field}, read_log, [*lines, "x"])
        for text, field in (("rule 1 1 3", 4), ("rule 1 1 3 2 ", 5), ("rule 1 1 3 2 1 1", 5), ("rule 1 1 3 2 x", 5), ("rule 1 2/4 3 2 1", 2)):
            self.refused(InvalidText, {"line": 1, "field": field}, read_log, ["book 2 1 / 1", text])
        self.refused(InvalidText, {"line": 1, "field": 3}, read_log, ["book 2 " + NINES, "rule 1 1"])

    def test_refused(self):
        for bad in NO_LOGS:
            self.refused(NotUsable, refusal("log"), log_lines, bad)
        for event in NO_EVENTS:
            self.refused(NotUsable, refusal("log"), log_lines, (BEGIN, event))
        fine = ["book 2 0", "rule"]
        for bad in (None, True, 0, "", "book 2 0", (), tuple(fine), [None], [*fine, None], [*fine, 0], [*fine, ("take", 0)], [*fine, "cut\n"],
                    ["book 2 0\n", "rule"], ["\n"], [fine], [["book 2 0"], "rule"], ["x", "\n"], [*fine, "cut 0\ntake 0"], [True, *fine]):
            self.refused(NotUsable, refusal("lines"), read_log, bad)

    def test_lines_stay_as_they_were(self):
        lines = ["book 2 0", "rule", "cut"]
        read_log(lines)
        self.exact(lines, ["book 2 0", "rule", "cut"])
        told = log_lines(read_log(lines))
        told.clear()
        self.exact(log_lines(read_log(lines)), lines)


if __name__ == "__main__":
    unittest.main()
