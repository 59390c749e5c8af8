"""Live books made anew from their logs."""

from cutorclose.live import live_by
from cutorclose.liveevents import is_log
from cutorclose.needs import need


def replayed(log):
    """A new live book after the events of the log; InvalidEvent for the first one that is refused."""
    need(is_log(log), "log")
    return live_by(log)
