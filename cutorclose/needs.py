"""Parameters refused by their names."""

from cutorclose.errors import NotUsable
from cutorclose.kinds import is_below


def need(holds, word):
    """Refuse the parameter called word unless what is asked of it holds."""
    if not holds:
        raise NotUsable(word, -1)


def need_two_places(size, one, other, word):
    """Refuse what is not two different places of so many; word is the name of the first one."""
    need(is_below(size, one), word)
    need(is_below(size, other) and other != one, "other")
