"""The checker of papers of what can be left."""

from cutorclose.errors import InvalidPaper
from cutorclose.kinds import is_lot, is_tuple_of
from cutorclose.leavings import RANKS
from cutorclose.lots import is_free, lots_within, places_of, rank_of
from cutorclose.needs import need
from cutorclose.partings import adds_up
from cutorclose.takes import kept_by, left_by, share, together

WORDS = ("pair", "ring", "star", "apart")


def lets_left(book, lot, thing):
    """The first word of a paper on the lot; InvalidPaper for any other value."""
    need_two_or_three(book, lot)
    if not is_tuple_of(2, thing) or thing[0] not in WORDS:
        raise InvalidPaper("shape", -1)
    word, told = thing
    if not fits_number(word, len(lot)):
        raise InvalidPaper("word", -1)
    if word == "apart":
        check_away(book, lot, told)
    else:
        check_closed(book, lot, told, RANKS[word])
    return word


def need_two_or_three(book, lot):
    """Refuse what is no lot of two or three places of the book."""
    need(is_lot(book[1], lot) and len(lot) in (2, 3), "lot")


def fits_number(word, many):
    """Whether papers with this word are on lots of so many places."""
    if word == "apart":
        return True
    return many == 2 if word == "pair" else many == 3


def check_closed(book, lot, closed, rank):
    """InvalidPaper unless the lot is left, by the one that is closed, as this rank asks for."""
    if not is_lot(book[1], closed) or share(closed, lot):
        raise InvalidPaper("closed", -1)
    left = left_by(book, closed, kept_by(book[1], together(lot, closed)))
    somes = lots_within(places_of(left), rank)
    if rank_of(left) != rank or not all([is_free(left, some) for some in somes]):
        raise InvalidPaper("left", -1)


def check_away(book, lot, away):
    """InvalidPaper unless the lot away adds up and has some of the lot's places, not all."""
    if not is_lot(book[1], away):
        raise InvalidPaper("away", -1)
    if len([place for place in lot if place in away]) in (0, len(lot)):
        raise InvalidPaper("some", -1)
    if not adds_up(book, away):
        raise InvalidPaper("adds", -1)
