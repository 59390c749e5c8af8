"""Papers of steps."""

from cutorclose.downs import brought_down


def down_paper(book, rule):
    """A paper of steps that lead to a book without places, with the worth, or to one where none stands."""
    steps, factor, left, _ = brought_down(book, rule)
    return ("down", steps, factor) if left[1] == 0 else ("held", steps)
