"""Trees of choices: made, reckoned by, judged with the whole list of lets_tree [9] [33] [40] [41]."""

import itertools
import unittest

from cutorclose.choicechecker import lets_tree
from cutorclose.choices import all_worths, tree_by, tree_worth
from cutorclose.errors import InvalidPaper, NotUsable
from cutorclose.reckoning import order_worths, worth_by
from tests import plain
from tests.support import (BAD_ORDERS, BAD_RULES, BOTH, FOUR, GREAT_BOOKS, LONE, ODD, ODD_VALUES, RING, RULE_BOOKS, STAR, WIDE, Case,
                           quotient, rules_of)
from tests.test_reckoning import ALL, PRIMES, orders

PAIR = (2, 2, ((1, 1),))
ALONE_AND_PAIR = (2, 3, ((1, 0, 0), (0, 1, 1)))
TWO = (2, 4, ((1, 1, 0, 0), (0, 0, 1, 1)))
RING_TREE = (0, (0, (0, ()), (0, ())), (0, (0, ())))

# What is no tree of a pair, and how the fault is told.
PAIR_FAULTS = (
    # No tuple, or (), where there are places.
    (None, "shape", ()), (True, "shape", ()), (0, "shape", ()), ("", "shape", ()), ("0", "shape", ()), ((), "shape", ()),
    ([], "shape", ()),
    ([0, (0, ()), (0, ())], "shape", ()),
    # No place: ahead of the number of what stands there.
    ((2, (0, ()), (0, ())), "place", ()), ((-1, (0, ()), (0, ())), "place", ()), ((True, (0, ()), (0, ())), "place", ()),
    ((None,), "place", ()),
    (((),), "place", ()), ((2,), "place", ()), ((2, None, None, None), "place", ()), ((False, (0, ()), (0, ())), "place", ()),
    ((10 ** 59, (), ()), "place", ()), (([0], (0, ()), (0, ())), "place", ()), (("0", (0, ()), (0, ())), "place", ()),
    # Not three for an ordinary place.
    ((0,), "shape", ()), ((0, (0, ())), "shape", ()), ((0, (0, ()), (0, ()), (0, ())), "shape", ()), ((1, None), "shape", ()),
    # The tree of the book closed there, with all that is in it, ahead of the other one.
    ((0, (), (0, ())), "shape", (0,)), ((0, None, None), "shape", (0,)), ((0, [0, ()], (0, ())), "shape", (0,)),
    ((0, (1, ()), (0, ())), "place", (0,)),
    ((1, (True, ()), None), "place", (0,)), ((0, (0,), (0, ())), "shape", (0,)), ((0, (0, (), ()), (0, ())), "shape", (0,)),
    ((0, (0, None), ()), "shape", (0, 0)), ((0, (0, (0, ())), ()), "shape", (0, 0)), ((0, (0, []), None), "shape", (0, 0)),
    ((0, (0, 0), (1, ())), "shape", (0, 0)), ((0, (0, False), (1, ())), "shape", (0, 0)), ((0, (0, ""), (0, ())), "shape", (0, 0)),
    # The one of the book cut there.
    ((0, (0, ()), ()), "shape", (1,)), ((0, (0, ()), None), "shape", (1,)), ((1, (0, ()), (1, ())), "place", (1,)),
    ((1, (0, ()), (0, (), ())), "shape", (1,)), ((0, (0, ()), (0, (0, ()))), "shape", (1, 0)),
    ((0, (0, ()), (0, None)), "shape", (1, 0)),
    ((0, (0, ()), [0, ()]), "shape", (1,)),
)

# A book, what is no tree of it, and how the fault is told.
FAULTS = (
    ((2, 0, ()), None, "shape", ()), ((2, 0, ()), (0,), "shape", ()), ((2, 0, ()), [], "shape", ()), ((2, 0, ()), 0, "shape", ()),
    ((2, 0, ()), ((),), "shape", ()), ((2, 0, ()), False, "shape", ()), ((2, 0, ()), "", "shape", ()),
    # Two for an idle place, and for one that is alone.
    ((2, 1, ()), (0,), "shape", ()), ((2, 1, ()), (0, (), ()), "shape", ()), ((2, 1, ()), (1, ()), "place", ()),
    ((2, 1, ()), (0, 0), "shape", (0,)),
    ((2, 1, ((1,),)), (0, (), ()), "shape", ()), ((2, 1, ((1,),)), (0,), "shape", ()),
    ((2, 1, ((1,),)), (0, (0, ())), "shape", (0,)),
    (RING, (0, (0, (0, ()), ()), (0, (0, ()))), "shape", (0, 1)),
    (RING, (0, (0, (0, ()), (0, ())), (0, (0, ()), ())), "shape", (1,)),
    (RING, (0, (0, (0, ()), (1, ())), (0, (0, ()))), "place", (0, 1)),
    (RING, (0, (0, (0, ()), (0, ())), (0, (1, ()))), "place", (1, 0)),
    (RING, (0, (0, (0, ()), (0, 7)), (0, (0, ()))), "shape", (0, 1, 0)),
    (RING, (0, (0, (0, ()), (0, ())), (0, (0, ((),)))), "shape", (1, 0, 0)),
    (RING, (2, (2, (0, ()), (0, ())), (0, (0, ()))), "place", (0,)), (RING, (3, (0, (0, ()), (0, ())), (0, (0, ()))), "place", ()),
    (STAR, (0, (0, (0, ())), (0, (0, ()))), "shape", (1,)),
    (STAR, (0, (0, (0, ()), (0, ())), (0, (0, ()), (0, ()))), "shape", (0,)),
    (STAR, (1, (1, (0, ())), (1, (0, ()), (True, ()))), "place", (1, 1)),
    # A fault deep in the first tree is ahead of one at the root of the second one, and behind one at its own root.
    (STAR, (0, (0, (0, None)), None), "shape", (0, 0, 0)), (STAR, (0, (0, None), (9, None)), "shape", (0, 0)),
    (STAR, (3, (0, None), None), "place", ()),
    (WIDE, (0, None, None), "shape", (0,)), (LONE, (0, (0, (0, ()), (0, ()))), "shape", (0, 0, 0)),
    (LONE, (0, (2, (2, ()))), "place", (0, 0)),
)


def refusal(word):
    return {"word": word, "at": -1}


def trees_of(book):
    """All trees of a book, by the words of their definition."""
    if book[1] == 0:
        return [()]
    found = []
    for place in range(book[1]):
        lefts = [left for _, left, _ in plain.ways(book, ((FOUR,) * book[1]), place)]
        found += [(place, *own) for own in itertools.product(*map(trees_of, lefts))]
    return found


def worth_down(book, rule, tree):
    """The worth by a tree, with the tests' own reckoning."""
    if book[1] == 0:
        return 1
    ways = zip(plain.ways(book, rule, tree[0]), tree[1:])
    return sum(number * worth_down(left, rest, own) for (number, left, rest), own in ways)


def ends(tree):
    return 1 if tree == () else sum(map(ends, tree[1:]))


class Trees(Case):
    def test_by_an_order(self):
        self.exact(tree_by((2, 0, ()), ()), ())
        self.exact(tree_by(RING, (0, 1, 2)), RING_TREE)
        self.exact(tree_by(STAR, (2, 0, 1)), (2, (0, (0, ())), (0, (0, ()), (0, ()))))
        self.exact(tree_by(ALL, (1, 2, 0)), (1, (1, (0, ()))))
        self.exact(tree_by((5, 3, ()), (2, 1, 0)), (2, (1, (0, ()))))

    def test_by_all_orders(self):
        for book in RULE_BOOKS:
            trees = trees_of(book) if book[1] < 4 else []
            rule = rules_of(book[1], 1, "tree")[0]
            for order in orders(book[1])[::3]:
                tree = tree_by(book, order)
                if book[1] < 4:
                    self.assertIn(tree, trees)
                self.exact(lets_tree(book, tree), ends(tree))
                self.exact(tree_worth(book, rule, tree), worth_by(book, rule, order))

    def test_eight_places(self):
        book = (7, 8, ((1, 0, 0, 0, 1, 1, 1, 1), (0, 1, 0, 0, 1, 2, 3, 4), (0, 0, 1, 0, 1, 4, 2, 2), (0, 0, 0, 1, 1, 1, 6, 1)))
        order = (7, 0, 6, 1, 5, 2, 4, 3)
        tree = tree_by(book, order)
        rule = rules_of(8, 1)[1]
        self.exact(tree_worth(book, rule, tree), worth_by(book, rule, order))
        self.exact(lets_tree(book, tree), ends(tree))

    def test_all_trees(self):
        for book in RULE_BOOKS:
            if book[1] < 4:
                rule = rules_of(book[1], 1, "all")[0]
                for tree in trees_of(book):
                    self.exact(lets_tree(book, tree), ends(tree))
                    self.exact(tree_worth(book, rule, tree), quotient(worth_down(book, rule, tree)))

    def test_trees_of_no_order(self):
        # The last two places are chosen another way round in each branch.
        tree = (0, (0, (0, ()), (0, ())), (1, (0, ())))
        self.exact(lets_tree(RING, tree), 3)
        self.exact(tree_worth(RING, PRIMES[:3], tree), (2 * (11 * 37 + 13 * 31) + 3 * 31 * 17, 1))
        tree = (3, (0, (1, (0, ())), (1, (0, ()))), (1, (0, (0, ())), (0, (0, ()))))
        self.exact(lets_tree(TWO, tree), 4)


class AllTrees(Case):
    def test_all_different_worths(self):
        for book in RULE_BOOKS:
            for rule in rules_of(book[1], 1, "worths"):
                self.exact(all_worths(book, rule), tuple(map(quotient, sorted(plain.tree_worths(book, rule)))))

    def test_by_each_tree(self):
        for book in (RING, STAR, ALONE_AND_PAIR):
            for rule in rules_of(3, 2, "each"):
                wanted = sorted({worth_down(book, rule, tree) for tree in trees_of(book)})
                self.exact(all_worths(book, rule), tuple(map(quotient, wanted)))

    def test_orders_are_among_them(self):
        for book in (RING, STAR, WIDE, TWO, LONE):
            for rule in rules_of(book[1], 2, "among"):
                self.assertLessEqual(set(order_worths(book, rule)), set(all_worths(book, rule)))

    def test_no_places(self):
        self.exact(all_worths((3, 0, ()), ()), ((1, 1),))


class Checker(Case):
    def test_each_entry_at_each_root(self):
        for thing, word, path in PAIR_FAULTS:
            with self.subTest(thing=thing):
                self.refused(InvalidPaper, {"word": word, "at": path}, lets_tree, PAIR, thing)
                self.refused(NotUsable, refusal("tree"), tree_worth, PAIR, (FOUR, FOUR), thing)

    def test_the_same_deeper(self):
        # Closed at place 0 a ring is the pair; cut at place 0 a star is the pair.
        for thing, word, path in PAIR_FAULTS:
            self.refused(InvalidPaper, {"word": word, "at": (0, *path)}, lets_tree, RING, (0, thing, None))
            self.refused(InvalidPaper, {"word": word, "at": (1, *path)}, lets_tree, STAR, (0, (0, (0, ())), thing))
            self.refused(InvalidPaper, {"word": word, "at": (0, *path)}, lets_tree, ALONE_AND_PAIR, (0, thing))

    def test_each_entry_in_order(self):
        for book, thing, word, path in FAULTS:
            with self.subTest(book=book, thing=thing):
                self.refused(InvalidPaper, {"word": word, "at": path}, lets_tree, book, thing)

    def test_any_value(self):
        for thing in (*ODD_VALUES, RING, FOUR, ODD):
            with self.assertRaises(InvalidPaper):
                lets_tree(WIDE, thing)
        deep = ()
        for _ in range(29):
            deep = (0, deep)
        self.refused(InvalidPaper, {"word": "shape", "at": (0, 0, 0)}, lets_tree, ALL, deep)

    def test_what_is_no_tree_of_one_book_is_one_of_another(self):
        books = [book for book in RULE_BOOKS if book[1] == 3][::3]
        for book, other in itertools.product(books, repeat=2):
            own = trees_of(book)
            for tree in trees_of(other):
                if tree in own:
                    self.exact(lets_tree(book, tree), ends(tree))
                else:
                    with self.assertRaises(InvalidPaper):
                        lets_tree(book, tree)


class Refused(Case):
    def test_in_order(self):
        for bad in BAD_RULES:
            self.refused(NotUsable, refusal("rule"), tree_worth, RING, bad, RING_TREE)
            self.refused(NotUsable, refusal("rule"), tree_worth, RING, bad, None)
            self.refused(NotUsable, refusal("rule"), all_worths, RING, bad)
        for bad in BAD_ORDERS:
            self.refused(NotUsable, refusal("order"), tree_by, RING, bad)
        self.refused(NotUsable, refusal("order"), tree_by, (2, 0, ()), None)
        self.refused(NotUsable, refusal("order"), tree_by, (2, 0, ()), [])
        self.refused(NotUsable, refusal("tree"), tree_worth, (2, 0, ()), (), [])
        self.refused(NotUsable, refusal("rule"), tree_worth, (2, 0, ()), [], ())
        self.refused(NotUsable, refusal("rule"), all_worths, (2, 0, ()), [])
        self.refused(NotUsable, refusal("rule"), all_worths, (2, 0, ()), (FOUR,))
        self.refused(NotUsable, refusal("tree"), tree_worth, BOTH, (FOUR,) * 6, RING_TREE)
        for book in GREAT_BOOKS:
            self.refused(NotUsable, refusal("tree"), tree_worth, book, (FOUR,) * book[1], ())


if __name__ == "__main__":
    unittest.main()
