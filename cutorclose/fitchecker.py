"""The checker of papers of whether a rule fits."""

from cutorclose.equations import failing
from cutorclose.errors import InvalidPaper
from cutorclose.holdings import needs_no_tie
from cutorclose.kinds import is_lot, is_order, is_quotient_pair, is_tuple_of
from cutorclose.partings import adds_up
from cutorclose.reckoning import worth_by
from cutorclose.rulekinds import need_rule, rule_left
from cutorclose.takes import left_by, share, together
from cutorclose.tyings import holds_at


def lets_fit(book, rule, thing):
    """False for a clash, True for another paper of the rule; InvalidPaper for any other value."""
    need_rule(book, rule)
    if not has_shape(thing):
        raise InvalidPaper("shape", -1)
    word = thing[0]
    if word == "all":
        check_all(book, rule)
    elif word == "parts":
        check_parts(book, rule, thing[1])
    else:
        check_clash(book, rule, thing)
    return word != "clash"


def has_shape(thing):
    """Whether any value begins as a paper does, and has as many values behind it."""
    if not isinstance(thing, tuple) or len(thing) == 0:
        return False
    if thing[0] == "all":
        return len(thing) == 1
    if thing[0] == "parts":
        return len(thing) == 2 and isinstance(thing[1], tuple)
    return thing[0] == "clash" and len(thing) == 5


def check_all(book, rule):
    """InvalidPaper if an equation fails."""
    equations = failing(book, rule)
    if len(equations) > 0:
        raise InvalidPaper("equation", equations[0])


def check_parts(book, rule, rows):
    """InvalidPaper unless the rows part the places into lots that hold together, each by itself."""
    ahead = ()
    for k, row in enumerate(rows):
        if not is_tuple_of(2, row):
            raise InvalidPaper("row", k)
        lot, tie = row
        check_lot(book, k, lot, ahead)
        check_tie(rule, k, lot, tie)
        ahead = (*ahead, *lot)
    if len(ahead) < book[1]:
        raise InvalidPaper("places", -1)


def check_lot(book, k, lot, ahead):
    """InvalidPaper unless the lot of row k has places, none of those ahead, and adds up."""
    if not is_lot(book[1], lot) or len(lot) == 0:
        raise InvalidPaper("lot", k)
    if share(lot, ahead):
        raise InvalidPaper("twice", k)
    if not adds_up(book, lot):
        raise InvalidPaper("adds", k)


def check_tie(rule, k, lot, tie):
    """InvalidPaper unless the tie of row k holds all over the lot, or is None where none is needed."""
    if tie is None:
        if not needs_no_tie(rule, lot):
            raise InvalidPaper("gap", k)
        return
    if not is_quotient_pair(tie):
        raise InvalidPaper("tie", k)
    if not holds_at(rule, tie, lot):
        raise InvalidPaper("holds", k)


def check_clash(book, rule, clash):
    """InvalidPaper unless two or three places are left, and both orders of them come to different worths."""
    closed, cut, first, second = clash[1:]
    size = book[1]
    if not is_lot(size, closed):
        raise InvalidPaper("closed", -1)
    if not is_lot(size, cut) or share(cut, closed):
        raise InvalidPaper("cut", -1)
    many = size - len(closed) - len(cut)
    if many not in (2, 3):
        raise InvalidPaper("left", -1)
    if not is_order(many, first):
        raise InvalidPaper("first", -1)
    if not is_order(many, second):
        raise InvalidPaper("second", -1)
    left = left_by(book, closed, cut)
    rest = rule_left(rule, together(closed, cut))
    if worth_by(left, rest, first) == worth_by(left, rest, second):
        raise InvalidPaper("worths", -1)
