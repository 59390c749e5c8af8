"""Papers of fit checked by the tests' own reckoning."""

from fractions import Fraction

from cutorclose.kinds import is_lot, is_order, is_quotient_pair
from tests import plain
from tests.support import Case


def has_parts_paper(book, rule):
    """Whether each part has a tie, one place, or two with a pair gap of nought."""
    for part in plain.parts(book):
        if len(part) > 1 and plain.tie(rule, part) is None and (len(part) > 2 or plain.pair_gap(rule, *part) != 0):
            return False
    return True


class PaperCase(Case):
    """A test case that checks papers of fit as the document describes them."""

    def check_parts(self, book, rule, rows):
        self.assertIs(type(rows), tuple)
        size, whole = book[1], plain.rank(book, range(book[1]))
        for lot, tie in rows:
            self.assertTrue(is_lot(size, lot) and lot != ())
            self.assertEqual(plain.rank(book, lot) + plain.rank(book, plain.others(size, lot)), whole)
            if tie is None:
                self.assertTrue(len(lot) == 1 or (len(lot) == 2 and plain.pair_gap(rule, *lot) == 0))
            else:
                self.assertTrue(is_quotient_pair(tie))
                self.assertTrue(plain.tie_holds(rule, Fraction(*tie[0]), Fraction(*tie[1]), lot))
        self.assertEqual(sorted(place for lot, _ in rows for place in lot), list(range(size)))

    def check_clash(self, book, rule, clash):
        self.assertIs(type(clash), tuple)
        word, closed, cut, first, second = clash
        self.assertEqual(word, "clash")
        self.assertTrue(is_lot(book[1], closed) and is_lot(book[1], cut) and not set(closed) & set(cut))
        many = book[1] - len(closed) - len(cut)
        self.assertIn(many, (2, 3))
        self.assertTrue(is_order(many, first) and is_order(many, second))
        left, rest = plain.left(book, closed, cut), plain.without(rule, closed + cut)
        self.assertNotEqual(plain.worth_by(left, rest, first), plain.worth_by(left, rest, second))
