"""The checker of parcels with its whole list [81] [82]."""

import itertools
import random
import unittest

from cutorclose.errors import InvalidPaper
from cutorclose.lotsums import lot_sum, lot_term
from cutorclose.parcelchecker import lets_parcels
from cutorclose.parcels import parcels_of
from cutorclose.quotients import summed
from cutorclose.tyings import tie_of
from tests import plain
from tests.support import (BOTH, FOUR, LONE, ODD_VALUES, RING, SMALL_BOOKS, STAR, WIDE, Case, lots_of, quotient, rules_of)
from tests.test_lots import BAD_LOTS
from tests.test_parcels import CASES, GREAT, triple_worth

FINE = parcels_of(RING, (0, 1, 2))
FIRST = ((0, 1), (), (2,))
EMPTY = (2, 0, ())

# The entry, a book, and what are no parcels of it.
FAULTS = (
    *[(("shape", -1), RING, thing) for thing in (None, True, 0, "", "shape", [], list(FINE), [FIRST])],
    *[(("triple", 0), RING, (thing,)) for thing in ODD_VALUES],
    *[(("triple", 0), RING, (thing,)) for thing in ((), FIRST[:2], (*FIRST, ()), list(FIRST), "abc", (0, 1, 2), ((0, 1), (), None))],
    *[(("triple", 0), RING, ((bad, (), (2,)),)) for bad in BAD_LOTS], *[(("triple", 0), RING, (((0, 1), bad, (2,)),)) for bad in BAD_LOTS],
    *[(("triple", 0), RING, (((0, 1), (), bad),)) for bad in BAD_LOTS],
    (("triple", 1), RING, (FIRST, None)), (("triple", 2), RING, (*FINE[:2], ((1, 2), (1, 3), ()))),
    # What is no basis: too few places, too many, not free.
    *[(("basis", 0), RING, ((bad, (), ()),)) for bad in ((), (0,), (2,), (0, 1, 2))],
    *[(("basis", 0), STAR, ((bad, (), ()),)) for bad in ((), (0, 1), (0, 1, 2))],
    *[(("basis", 0), LONE, ((bad, (), ()),)) for bad in ((1, 2), (0, 3), (0,), (0, 1, 2))],
    (("triple", 0), EMPTY, (((0,), (), ()),)),
    (("basis", 1), RING, (FIRST, ((0,), (1,), (0,)))),
    (("lone", 0), RING, (((0, 1), (2,), ()),)), (("lone", 0), RING, (((0, 1), (0, 2), (0,)),)), (("lone", 0), STAR, (((1,), (0, 1), (1,)),)),
    (("lone", 0), STAR, (((1,), (0, 1, 2), (0, 2)),)),
    (("idle", 0), RING, (((0, 1), (), (1,)),)), (("idle", 0), RING, (((0, 1), (0, 1), (0, 2)),)), (("idle", 0), STAR, (((0,), (0,), (0, 1, 2)),)),
    # The rank of what stays of the basis with the idle places.
    (("rank", 0), RING, (((0, 1), (0,), (2,)),)), (("rank", 0), RING, (((0, 1), (0, 1), (2,)),)), (("rank", 0), STAR, (((0,), (0,), (1, 2)),)),
    (("rank", 0), STAR, (((0,), (0,), (1,)),)), (("rank", 1), RING, (FIRST, ((0, 1), (1,), (2,)))),
    (("rank", 0), LONE, (((0, 1), (1,), (2,)),)), (("rank", 0), LONE, (((0, 1), (0, 1), (2, 3)),)),
    # Some lot in two of them: the first such ahead is told, ahead of the next element.
    (("meets", (1, 0)), RING, (FIRST, FIRST)), (("meets", (1, 0)), RING, (FIRST, ((0, 1), (), ()))),
    (("meets", (1, 0)), RING, (((0, 1), (0,), ()), ((1, 2), (2,), ()))),
    (("meets", (2, 1)), RING, (((0, 1), (0,), ()), ((0, 2), (0, 2), ()), ((1, 2), (1,), ()))),
    (("meets", (3, 0)), RING, (*FINE, FIRST)), (("meets", (3, 2)), RING, (*FINE, ((1, 2), (), ()))),
    (("meets", (2, 0)), RING, (FIRST, ((0, 2), (), ()), ((0, 1), (0, 1), ()))),
    (("meets", (1, 0)), RING, (FIRST, FIRST, None)), (("triple", 1), RING, (FIRST, None, FIRST)),
    (("meets", (1, 0)), EMPTY, (((), (), ()), ((), (), ()))), (("meets", (1, 0)), (2, 1, ()), (((), (), (0,)), ((), (), ()))),
    # Some lot in none of them, last of all.
    (("whole", -1), RING, ()), (("whole", -1), EMPTY, ()), (("whole", -1), RING, (FIRST,)), (("whole", -1), RING, FINE[:2]),
    (("whole", -1), RING, FINE[1:]), (("whole", -1), STAR, (((0,), (), (1, 2)),)), (("whole", -1), (2, 1, ()), (((), (), ()),)),
    (("whole", -1), (2, 1, ((1,),)), (((0,), (), ()),)), (("whole", -1), RING, (((0, 1), (0, 1), ()),)),
)


def met_faults(book, triples):
    """The first entry that applies to triples of lots, by lots one by one; None if there is none."""
    size, seen = book[1], []
    for k, (basis, lone, idle) in enumerate(triples):
        if basis not in plain.bases(book):
            return ("basis", k)
        if not set(lone) <= set(basis):
            return ("lone", k)
        if set(idle) & set(basis):
            return ("idle", k)
        least = set(basis) - set(lone)
        if plain.rank(book, tuple(sorted(least | set(idle)))) != len(least):
            return ("rank", k)
        own = set(plain.parcel_lots((basis, lone, idle), size))
        for j, its in enumerate(seen):
            if own & its:
                return ("meets", (k, j))
        seen.append(own)
    return None if len(set().union(*seen)) == 2 ** size else ("whole", -1)


def mixed_parcels(book):
    """Parcels of four places where the rest of the order hangs on whether place 0 is taken."""
    one, other = plain.parcels(book, (0, 1, 2, 3)), plain.parcels(book, (0, 3, 1, 2))
    return tuple(sorted([each for each in one if 0 in each[0]] + [each for each in other if 0 not in each[0]]))


class Checker(Case):
    def test_each_entry_in_order(self):
        for (word, at), book, thing in FAULTS:
            with self.subTest(book=book, thing=thing):
                self.refused(InvalidPaper, {"word": word, "at": at}, lets_parcels, book, thing)

    def test_those_by_orders(self):
        for book, order in (*CASES, *GREAT):
            told = parcels_of(book, order)
            self.exact(lets_parcels(book, told), len(told))
            self.exact(lets_parcels(book, tuple(reversed(told))), len(told))

    def test_those_by_others(self):
        # Not all of one order: the order behind the first place is another one in each way.
        mixed = mixed_parcels(WIDE)
        self.exact(lets_parcels(WIDE, mixed), len(mixed))
        self.assertNotIn(mixed, [plain.parcels(WIDE, order) for order in itertools.permutations(range(4))])
        self.exact(lets_parcels((2, 1, ()), (((), (), (0,)),)), 1)
        self.exact(lets_parcels((2, 1, ((1,),)), (((0,), (0,), ()),)), 1)
        self.exact(lets_parcels(EMPTY, (((), (), ()),)), 1)

    def test_many_triples_by_lots(self):
        dice, met = random.Random("parcels"), {}
        for book in (*SMALL_BOOKS[::3], RING, STAR, LONE, WIDE):
            size, bases = book[1], plain.bases(book)
            orders = list(itertools.permutations(range(size)))
            for _ in range(8):
                triples = list(plain.parcels(book, dice.choice(orders)))
                for _ in range(dice.randrange(3)):
                    triples[dice.randrange(len(triples))] = self.any_triple(dice, size, bases, triples)
                entry = met_faults(book, triples)
                met[entry and entry[0]] = met.get(entry and entry[0], 0) + 1
                if entry is None:
                    self.exact(lets_parcels(book, tuple(triples)), len(triples))
                else:
                    self.refused(InvalidPaper, {"word": entry[0], "at": entry[1]}, lets_parcels, book, tuple(triples))
        self.assertGreater(min(met.values()), 5)
        self.assertEqual(len(met), 7)

    def any_triple(self, dice, size, bases, triples):
        """A triple of lots: one of those told with a lot changed, so that each entry comes up."""
        basis, lone, idle = dice.choice(triples)
        lots = lots_of(size)
        return dice.choice([(dice.choice(lots), lone, idle), (basis, dice.choice(lots), idle), (basis, lone, dice.choice(lots)),
                            (dice.choice(bases), (), ()), (basis, lone, idle)])

    def test_by_name(self):
        self.exact(lets_parcels(thing=FINE, book=RING), 3)


class Consequences(Case):
    def test_a_sum_over_all_lots_can_be_told_by_them(self):
        for book, parcels in ((RING, FINE), (WIDE, mixed_parcels(WIDE)), (BOTH, plain.parcels(BOTH, (5, 1, 0, 3, 2, 4))),
                              (LONE, plain.parcels(LONE, (3, 1, 2, 0)))):
            lets_parcels(book, parcels)
            for rule in (*rules_of(book[1], 2, "told by"), (FOUR,) * book[1]):
                tie = tie_of(rule, tuple(range(book[1])))
                if tie is None:
                    continue
                tie = tuple((0, 1) if each == "any" else each for each in tie)
                pairs = tuple(four[:2] for four in rule)
                worths = [quotient(triple_worth(triple, rule)) for triple in parcels]
                for triple, worth in zip(parcels, worths):
                    lots = plain.parcel_lots(triple, book[1])
                    self.exact(summed([lot_term(book, pairs, tie, lot) for lot in lots]), worth)
                self.exact(summed(worths), lot_sum(book, pairs, tie))


if __name__ == "__main__":
    unittest.main()
