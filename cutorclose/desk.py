"""A desk: a live book that is told and asked by rows."""

from cutorclose.booktexts import book_line
from cutorclose.errors import InvalidRow, InvalidText
from cutorclose.eventreadings import read_begin, read_event
from cutorclose.eventtexts import event_line
from cutorclose.live import LiveBook
from cutorclose.ruletexts import quotient_word, rule_line


class Desk:
    """A live book, at first none, behind rows."""

    def __init__(self):
        self._live = None
        self._calls = 0

    def say(self, row):
        """The answer to a row; InvalidRow for any value that is none, or none now."""
        self._calls = self._calls + 1
        if not isinstance(row, str):
            raise InvalidRow(row)
        if row.startswith("begin "):
            book, rule = begun_by(row)
            self._live = LiveBook(book, rule)
            return "ok"
        if self._live is None:
            raise InvalidRow(row)
        return answer_of(self._live, row)

    def counts(self):
        """The pair of how many calls of say were started and finished."""
        # A call is over before anyone can ask, with an error, too.
        return (self._calls, self._calls)


def begun_by(row):
    """The pair of the book and the rule of a row of begin."""
    try:
        return read_begin(row)
    except InvalidText:
        raise InvalidRow(row) from None


def event_by(text, row):
    """The event whose line is the text, all of the row or its end."""
    try:
        return read_event(text)
    except InvalidText:
        raise InvalidRow(row) from None


def answer_of(live, row):
    """The answer of a live book to a row."""
    if row in ANSWERS:
        answer = ANSWERS[row]
        return answer(live)
    if row.startswith("bars "):
        return told(live.barred(event_by(row[len("bars "):], row)))
    book = live.go(event_by(row, row))[0]
    return str(book[1])


def told(thing):
    """A string as it is, but - for None and for an empty one."""
    return "-" if thing is None or thing == "" else thing


def undone(live):
    """The line of the event that is taken back."""
    return event_line(live.undo())


def book_told(live):
    """The line of the book."""
    return book_line(live.book_now)


def rule_told(live):
    """The line of the rule."""
    return rule_line(live.rule_now)


def factor_told(live):
    """The factor."""
    return quotient_word(live.factor_now)


def worth_told(live):
    """The worth, or - for none."""
    worth = live.worth_now
    return "-" if worth is None else quotient_word(worth)


def kinds_told(live):
    """The kinds of all places."""
    return told(" ".join(live.kinds_now))


def fits_told(live):
    """Whether the rule fits."""
    return "yes" if live.fits_now else "no"


def events_told(live):
    """How many events there are that are not undone."""
    return str(len(live))


def log_told(live):
    """The lines of the events that are not undone."""
    return told(" / ".join([event_line(event) for event in live]))


ANSWERS = {
    "undo": undone,
    "book": book_told,
    "rule": rule_told,
    "factor": factor_told,
    "worth": worth_told,
    "kinds": kinds_told,
    "fits": fits_told,
    "events": events_told,
    "log": log_told,
}
