"""Papers of sums."""

from cutorclose.partsums import parts_held, worth_on


def sum_paper(book, rule):
    """A paper of the sums of the parts; Untied where worth_by_parts raises it."""
    parts = parts_held(book, rule)
    return ("sums", tuple([(lot, tie, worth_on(book, rule, lot, tie)) for lot, tie in parts]))
