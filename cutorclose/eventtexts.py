"""Events and logs written as lines."""

from cutorclose.booktexts import book_line
from cutorclose.liveevents import is_event, is_log
from cutorclose.needs import need
from cutorclose.ruletexts import quotient_word, rule_line


def event_line(event):
    """The line of an event by form: its word, and what follows."""
    need(is_event(event), "event")
    words = words_behind(event)
    return " ".join([event[0], *words])


def log_lines(log):
    """A list of the lines of a log: those of the book and the rule of the beginning, and one for each event."""
    need(is_log(log), "log")
    book, rule = log[0][1:]
    events = [event_line(event) for event in log[1:]]
    return [book_line(book), rule_line(rule), *events]


def words_behind(event):
    """A list of what follows the word of an event."""
    word = event[0]
    if word == "beside":
        return [book_line(event[1]), rule_line(event[2])]
    if word == "give":
        numbers = [quotient_word(number) for number in event[2]]
        return [str(event[1]), *numbers]
    places = event[1] if word in ("cut", "close") else event[1:]
    return [str(place) for place in places]
