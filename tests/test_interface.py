"""The interface: names where they are listed, by position and by name, arguments left as they were [2] [13]."""

import copy
import importlib
import inspect
import types
import unittest

from tests.support import BOTH, FOUR, ODD, RING, STAR, Case

TIE = ((2, 1), (1, 1))
ONES = (((1, 1), (1, 1)),) * 3
PARTS = ("parts", (((0, 1, 2), TIE),))
ROW = ("in row", 0, 1)
DOWN = ("down", (ROW, ("alike", 0, 1), ("take", 0)), (14, 1))
HALF = ((1, 2),) * 3
LOG = (("begin", RING, ODD), ("cut", (0,)))
TREE = (0, (0, (0, ()), (0, ())), (0, (0, ())))

# For each function its module, its name, its parameters, and rows of arguments, also wrong ones.
FUNCTIONS = [
    ("kinds", "is_integer", "thing", [(1,), (True,), ([1, [2]],)]),
    ("kinds", "is_number", "thing", [(0,), (-1,), ([[0]],)]),
    ("kinds", "is_prime", "thing", [(7,), (9,), ([7],)]),
    ("kinds", "is_quotient", "thing", [((1, 2),), ([1, 2],)]),
    ("kinds", "is_word", "prime size thing", [(3, 2, (0, 2)), (3, 2, [0, 2])]),
    ("kinds", "is_lot", "size thing", [(3, (0, 2)), (3, [0, 2])]),
    ("kinds", "is_order", "size thing", [(2, (1, 0)), (2, [1, 0])]),
    ("kinds", "is_book", "thing", [(RING,), ([2, 1, [[1]]],)]),
    ("quotients", "plus", "one other", [((1, 2), (1, 3)), ([1, 2], (1, 3))]),
    ("quotients", "minus", "one other", [((1, 2), (1, 3)), ((1, 2), [1, 3])]),
    ("quotients", "times", "one other", [((1, 2), (1, 3)), ([1], [2])]),
    ("quotients", "over", "one other", [((1, 2), (1, 3)), ((1, 2), (0, 1))]),
    ("quotients", "raised", "one many", [((1, 2), 3), ((1, 2), [3])]),
    ("bookchecker", "lets_book", "thing", [(RING,), ((2, 1, [[1]]),), ([2, [1]],)]),
    ("books", "span_of", "prime size words", [(2, 2, ((1, 1),)), (2, 2, [[1, 1]])]),
    ("books", "has_word", "book word", [(RING, (1, 1, 0)), (RING, [1, 1, 0])]),
    ("books", "words_of", "book", [(RING,)]),
    ("books", "checks_of", "book", [(RING,)]),
    ("books", "beside", "one other", [(RING, STAR), (RING, (3, 0, ()))]),
    ("lots", "rank_of", "book", [(RING,)]),
    ("lots", "rank_on", "book lot", [(RING, (0, 2)), (RING, [0, 2])]),
    ("lots", "is_free", "book lot", [(RING, (0, 2)), (RING, [0, 2])]),
    ("lots", "kind_at", "book place", [(RING, 1), (RING, [1])]),
    ("lots", "bases_of", "book", [(BOTH,)]),
    ("takes", "kept_by", "size lot", [(3, (0, 2)), (3, [0, 2])]),
    ("takes", "cut_at", "book lot", [(RING, (0,)), (RING, [0])]),
    ("takes", "closed_at", "book lot", [(RING, (0,)), (RING, [0])]),
    ("takes", "left_by", "book closed cut", [(RING, (0,), (1,)), (RING, [0], [1]), (RING, (0,), [1])]),
    ("booktexts", "book_line", "book", [(BOTH,)]),
    ("bookreadings", "read_book", "text", [("book 2 1 / 1",), ("book 2 1 / 2",), (["book"],)]),
    ("knots", "knots_of", "book", [(BOTH,)]),
    ("knots", "bonds_of", "book", [(BOTH,)]),
    ("knots", "knots_at", "book place", [(BOTH, 4), (BOTH, [4])]),
    ("partings", "parts_of", "book", [(BOTH,)]),
    ("partings", "part_at", "book place", [(BOTH, 4), (BOTH, [4])]),
    ("partings", "adds_up", "book lot", [(BOTH, (0, 1, 2)), (BOTH, [0])]),
    ("twins", "are_alike", "book one other", [(STAR, 0, 2), (STAR, [0], 2), (STAR, 0, [2])]),
    ("twins", "are_in_row", "book one other", [(RING, 0, 2), (RING, [0], 2), (RING, 0, 0)]),
    ("twins", "alike_sets", "book", [(BOTH,)]),
    ("twins", "row_sets", "book", [(BOTH,)]),
    ("leavings", "pair_left", "book one other", [(RING, 0, 1), (RING, 1, 0), (RING, 0, [1])]),
    ("leavings", "ring_left", "book lot", [(RING, (0, 1, 2)), (RING, [0, 1, 2])]),
    ("leavings", "star_left", "book lot", [(STAR, (0, 1, 2)), (STAR, [0, 1, 2])]),
    ("leavings", "pairs_of", "book", [(BOTH,)]),
    ("leavings", "rings_of", "book", [(BOTH,)]),
    ("leavings", "stars_of", "book", [(BOTH,)]),
    ("leavepapers", "leave_paper", "book lot", [(BOTH, (0, 3)), (BOTH, [0, 3])]),
    ("leavechecker", "lets_left", "book lot thing", [(RING, (0, 1), ("pair", (2,))), (RING, (0, 1), ["pair", [2]]),
                                                     (RING, (0, 1), ("pair", [2])), (RING, [0, 1], [])]),
    ("rulekinds", "is_rule", "size thing", [(3, ODD), (3, list(ODD)), (1, ([[1, 1]],))]),
    ("rulekinds", "rule_left", "rule lot", [(ODD, (0, 1)), (ODD, [0, 1]), ([], [])]),
    ("rulekinds", "rule_of_checks", "rule", [(ODD,), (list(ODD),)]),
    ("rulekinds", "same_rule", "size four", [(2, FOUR), (2, list(FOUR))]),
    ("rulechecker", "lets_rule", "size thing", [(3, ODD), (1, ([[1, 1]],)), ([1], [])]),
    ("ruletexts", "rule_line", "rule", [(ODD,), (list(ODD),)]),
    ("rulereadings", "read_rule", "text", [("rule 1 1/2 3 2",), ("rule 1 2/4 3 2",), (["rule"],)]),
    ("reckoning", "worth_by", "book rule order", [(RING, ODD, (2, 0, 1)), (RING, list(ODD), [0]), (RING, ODD, [2, 0, 1])]),
    ("reckoning", "steps_at", "book rule place", [(RING, ODD, 2), (RING, list(ODD), 2), (RING, ODD, [2])]),
    ("reckoning", "order_worths", "book rule", [(RING, ODD), (RING, list(ODD))]),
    ("choicechecker", "lets_tree", "book thing", [(RING, TREE), (RING, [0, [1]]), (RING, (0, [0, ()], ()))]),
    ("choices", "tree_by", "book order", [(RING, (2, 0, 1)), (RING, [2, 0, 1])]),
    ("choices", "tree_worth", "book rule tree", [(RING, ODD, TREE), (RING, list(ODD), TREE), (RING, ODD, list(TREE))]),
    ("choices", "all_worths", "book rule", [(RING, ODD), (RING, list(ODD))]),
    ("brackets", "pair_gap", "rule one other", [(ODD, 0, 2), (ODD, 0, [2]), (list(ODD), 0, 0)]),
    ("brackets", "bracket", "rule one other", [(ODD, 0, 2), (ODD, [0], 2), (list(ODD), 0, 0)]),
    ("equations", "equations_of", "book", [(BOTH,)]),
    ("equations", "equation_gap", "rule equation", [(ODD, ("pair", 0, 2)), (ODD, ["pair", 0, 2]), (list(ODD), ("pair", 0, 2))]),
    ("equations", "failing", "book rule", [(RING, ODD), (RING, list(ODD))]),
    ("fitpapers", "fit_paper", "book rule", [(RING, ODD), (RING, (FOUR,) * 3), (RING, list(ODD))]),
    ("fitting", "fits", "book rule", [(RING, ODD), (RING, list(ODD))]),
    ("fitting", "clash_of", "book rule", [(RING, ODD), (RING, (FOUR,) * 3), (RING, list(ODD))]),
    ("fitting", "worth_of", "book rule", [(RING, ODD), (RING, (FOUR,) * 3), (RING, list(ODD))]),
    ("fitchecker", "lets_fit", "book rule thing", [(RING, (FOUR,) * 3, PARTS), (RING, ODD, PARTS), (RING, ODD, ["all"]),
                                                   (RING, ODD, ("clash", (1,), (), [0, 1], [1, 0])), (RING, list(ODD), [])]),
    ("mendings", "values_for", "book rule place index", [(RING, ODD, 2, 2), (RING, ODD, [2], [2]), (RING, list(ODD), 2, 2)]),
    ("mendings", "mended", "book rule place index", [(RING, ODD, 2, 2), (RING, ODD, 2, [2]), (RING, list(ODD), 2, 2)]),
    ("mendings", "mending_spots", "book rule", [(RING, ODD), (RING, list(ODD))]),
    ("lotsums", "tied_rule", "pairs tie", [(ONES, TIE), (list(ONES), TIE), (ONES, list(TIE))]),
    ("lotsums", "lot_term", "book pairs tie lot", [(RING, ONES, TIE, (0, 2)), (RING, list(ONES), list(TIE), [0]),
                                                    (RING, ONES, TIE, [0])]),
    ("lotsums", "lot_sum", "book pairs tie", [(RING, ONES, TIE), (RING, list(ONES), TIE), (RING, ONES, list(TIE))]),
    ("ranktables", "rank_table", "book", [(BOTH,)]),
    ("ranktables", "table_sum", "book pair tie", [(RING, ((1, 2), (1, 3)), TIE), (RING, [(1, 2), (1, 3)], TIE),
                                                   (RING, TIE, list(TIE))]),
    ("ranktables", "checks_table", "table", [(((1, 0), (0, 1)),), (([1, 0], [0, 1]),), ([(1,)],)]),
    ("tyings", "holds_at", "rule tie lot", [(ODD, TIE, (0, 1)), (list(ODD), TIE, (0, 1)), (ODD, list(TIE), [0]), (ODD, TIE, [0, 1])]),
    ("tyings", "tie_of", "rule lot", [(ODD, (0, 1)), (list(ODD), (0, 1)), (ODD, [0, 1])]),
    ("tyings", "ties_of", "book rule", [(RING, ODD), (RING, list(ODD))]),
    ("partsums", "worth_by_parts", "book rule", [(RING, ODD), (RING, (FOUR,) * 3), (RING, list(ODD))]),
    ("sumpapers", "sum_paper", "book rule", [(RING, ODD), (RING, (FOUR,) * 3), (RING, list(ODD))]),
    ("sumchecker", "lets_sum", "book rule thing", [(RING, (FOUR,) * 3, ("sums", (((0, 1, 2), TIE, (14, 1)),))),
                                                   (RING, ODD, ["sums", [[]]]), (RING, list(ODD), []),
                                                   (RING, ODD, ("sums", ([(0, 1, 2), TIE, (14, 1)],)))]),
    ("merging", "merged_alike", "book rule one other",
     [(STAR, ODD, 2, 0), (STAR, list(ODD), 2, 0), (STAR, ODD, [2], 0), (RING, ODD, 2, 0)]),
    ("merging", "merged_in_row", "book rule one other",
     [(RING, ODD, 2, 0), (RING, list(ODD), 2, 0), (RING, ODD, 2, [0]), (STAR, ODD, 2, 0)]),
    ("doubling", "twinned", "book place", [(RING, 1), (RING, [1])]),
    ("doubling", "rowed", "book place", [(RING, 1), (RING, [1])]),
    ("downs", "stands", "book step", [(RING, ROW), (RING, list(ROW)), (RING, ("in row", [0], 1))]),
    ("downs", "after_step", "book rule step", [(RING, ODD, ROW), (RING, list(ODD), ROW), (RING, ODD, list(ROW))]),
    ("downs", "comes_down", "book", [(BOTH,)]),
    ("downs", "brought_down", "book rule", [(RING, ODD), (RING, list(ODD))]),
    ("downs", "worth_by_downs", "book rule", [(RING, ODD), (RING, list(ODD))]),
    ("downpapers", "down_paper", "book rule", [(RING, ODD), (RING, list(ODD))]),
    ("downchecker", "lets_down", "book rule thing",
     [(RING, (FOUR,) * 3, DOWN), (RING, ODD, list(DOWN)), (RING, ODD, ("held", [list(ROW)])), (RING, ODD, ("held", (list(ROW),))),
      (RING, list(ODD), DOWN)]),
    ("letters", "words_sum", "book letters", [(RING, ONES), (RING, list(ONES))]),
    ("letters", "tuples_sum", "book letters many", [(RING, ONES, 2), (RING, list(ONES), 2), (RING, ONES, [2])]),
    ("letters", "letters_rule", "prime letters many", [(2, ONES, 2), ([2], ONES, 2), (2, list(ONES), 2)]),
    ("letters", "checks_letters", "prime letters", [(2, ONES), (2, list(ONES))]),
    ("weights", "weight_counts", "book", [(BOTH,)]),
    ("weights", "words_on", "book lot", [(RING, (0, 2)), (RING, [0, 2])]),
    ("weights", "checks_counts", "prime counts", [(2, (1, 0, 3, 0)), (2, [1, 0, 3, 0]), (2, (1, 2, 0))]),
    ("odds", "chance_full", "book odds", [(RING, HALF), (RING, list(HALF))]),
    ("odds", "chance_free", "book odds", [(RING, HALF), (RING, list(HALF))]),
    ("odds", "lack_table", "book odds", [(RING, HALF), (RING, list(HALF))]),
    ("prices", "bases_sum", "book prices", [(RING, HALF), (RING, list(HALF))]),
    ("prices", "best_bases", "book prices", [(RING, HALF), (RING, list(HALF))]),
    ("parcels", "parcels_of", "book order", [(RING, (2, 0, 1)), (RING, [2, 0, 1])]),
    ("parcels", "parcel_with", "book order lot", [(RING, (2, 0, 1), (0, 1)), (RING, [2, 0, 1], (0, 1)), (RING, (2, 0, 1), [0, 1])]),
    ("parcels", "parcels_worth", "book order rule", [(RING, (2, 0, 1), ODD), (RING, [2, 0, 1], ODD), (RING, (2, 0, 1), list(ODD))]),
    ("parcelchecker", "lets_parcels", "book thing", [((2, 0, ()), (((), (), ()),)), (RING, [((0, 1), (), (2,))]), (RING, ([(0, 1)],))]),
    ("liveevents", "is_event", "thing", [(("cut", (0,)),), (["cut", [0]],), (("cut", [0]),)]),
    ("liveevents", "is_log", "thing", [(LOG,), (list(LOG),), ((LOG[0], ["cut", [0]]),)]),
    ("replaying", "replayed", "log", [(LOG,), (list(LOG),), ((*LOG, ("take", 9)),)]),
    ("eventtexts", "event_line", "event", [(("cut", (0,)),), (["cut", [0]],)]),
    ("eventtexts", "log_lines", "log", [(LOG,), (list(LOG),)]),
    ("eventreadings", "read_event", "text", [("cut 0",), ("cut x",), (["cut 0"],)]),
    ("eventreadings", "read_log", "lines", [(["book 2 0", "rule", "cut"],), (["book 2 0", "rule", "x"],), (("book 2 0", "rule"),)]),
]

# For each class its module, its name, the parameters of its creation, and what its own body has to hold.
CLASSES = [
    ("bookclasses", "Book", "book", {"cut": "lot", "closed": "lot", "left": "closed cut", "__call__": "lot"},
     "form_now prime_now size_now rank_now __getitem__ __invert__ __add__ __contains__ __len__ __iter__ __str__ __eq__ read span"),
    ("bookclasses", "Flat", "prime size", {"pair_word": "place other"}, ""),
    ("shapeclasses", "Shape", "book",
     {"kinds": "", "pair": "place other", "ring": "lot", "star": "lot", "like": "other", "__call__": "lot"},
     "form_now parts_now knots_now bonds_now __getitem__ __contains__ __len__ __iter__ __invert__ __eq__"),
    ("ruleclasses", "Rule", "fours",
     {"number": "place index", "left": "lot", "checks": "", "given": "place four", "__call__": "book order"},
     "rule_now size_now __getitem__ __add__ __contains__ __len__ __iter__ __str__ __eq__ read"),
    ("ruleclasses", "Even", "size four", {}, "four_now"),
    ("fitclasses", "Fit", "book rule", {"given": "place four", "left": "closed cut", "__call__": ""},
     "form_now rule_now fits_now failing_now __getitem__ __contains__ __len__ __iter__ __invert__ __eq__"),
    ("tieclasses", "Tied", "pairs tie", {"exchanged": "", "without": "lot", "__call__": "book"},
     "pairs_now tie_now rule_now __getitem__ __len__ __iter__ __eq__ of"),
    ("downclasses", "Going", "book rule steps", {"can_add": "step", "can_stand": "", "back": "", "__add__": "other"},
     "begun_now steps_now factor_now book_now rule_now is_done __len__ __iter__ __contains__ __eq__ of"),
    ("live", "LiveBook", "book rule",
     {"cut": "lot", "close": "lot", "take": "place", "give": "place four", "merge": "one other", "beside": "book rule", "go": "event",
      "barred": "event", "tried": "events", "undo": "", "do_all": "events keep", "tally": "", "log": ""},
     "MOST book_now rule_now factor_now kinds_now fits_now worth_now clash_now __getitem__ __contains__ __len__ __iter__ __eq__"),
    ("desk", "Desk", "", {"say": "row", "counts": ""}, ""),
]


def outcome(call, args, named):
    """What a call gives, or the kind and the fields of its error."""
    try:
        result = call(*args, **named)
        return list(result) if isinstance(result, types.GeneratorType) else result
    except ValueError as error:
        return [error.__class__.__name__, vars(error)]


class Interface(Case):
    def test_functions_stand_in_their_modules(self):
        for module, name, parameters, _ in FUNCTIONS:
            call = getattr(importlib.import_module("cutorclose." + module), name)
            self.assertEqual(call.__module__, "cutorclose." + module)
            self.assertEqual(list(inspect.signature(call).parameters), parameters.split())

    def test_classes_hold_their_own_methods(self):
        for module, name, parameters, methods, others in CLASSES:
            kind = getattr(importlib.import_module("cutorclose." + module), name)
            self.assertEqual(kind.__module__, "cutorclose." + module)
            self.assertEqual(list(inspect.signature(kind).parameters), parameters.split())
            for method, its in methods.items():
                self.assertEqual(list(inspect.signature(vars(kind)[method]).parameters)[1:], its.split())
            for each in others.split():
                self.assertIn(each, vars(kind))

    def test_by_position_and_by_name(self):
        for module, name, parameters, rows in FUNCTIONS:
            call = getattr(importlib.import_module("cutorclose." + module), name)
            for row in rows:
                named = dict(zip(parameters.split(), row))
                backwards = dict(reversed(list(named.items())))
                first = outcome(call, row, {})
                self.exact(outcome(call, (), named), first)
                self.exact(outcome(call, (), backwards), first)
                self.exact(outcome(call, row[:1], dict(list(named.items())[1:])), first)

    def test_arguments_stay_as_they_were(self):
        for module, name, _, rows in FUNCTIONS:
            call = getattr(importlib.import_module("cutorclose." + module), name)
            for row in rows:
                before = copy.deepcopy(row)
                outcome(call, row, {})
                self.exact(row, before)


if __name__ == "__main__":
    unittest.main()
