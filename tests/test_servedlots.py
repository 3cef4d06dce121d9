"""The functions of idleclauses.servedlots: points [19] and [20]."""

import itertools
import unittest

from idleclauses.errors import BadLot, BadPaper
from idleclauses.kernels import kernel
from idleclauses.servedlots import (
    check_served, greatest_served, is_served, residue, served_paper,
)
from idleclauses.settings import is_tidy
from tests.helper import Case, all_lots, named_bundles, odd_integers, odd_things, odd_tuples
from tests.opinions import changed, is_lot_of, names_in
from tests.opinions_names import (
    are_doubled, bundles, fewer_bundles, greatest_of, is_matched, residue_of, served_lots,
    served_verdict, with_names_of,
)

SQUARE = (2, ((-1, -2), (-1, 2), (1, -2), (1, 2)))
# Names 3 and 4 serve what has them; names 1 and 2 have too many.
ABC = (4, ((-2, -3), (-1,), (-1, 2), (1,), (1, -2), (3, 4)))
ABC_PAPER = ((3, 4), ((0, -3), (5, 4)), ((1, 2, 3), (1, 2, 4)))
FEW = (5, ((-4, 5), (1, 2, 3)))
SIGNS = named_bundles()[8]
ODD = odd_things() + odd_tuples() + odd_integers() + [0, 1]


class Bundles(Case):
    def test_there_are_all_sorts(self):
        found = [(bundle[0], greatest_of(bundle)) for bundle in bundles()]
        self.assertGreater(len([1 for _, lot in found if lot == ()]), 50)
        self.assertGreater(len([1 for names, lot in found if len(lot) == names]), 50)
        self.assertGreater(len([1 for names, lot in found if 0 < len(lot) < names]), 50)


class IsServed(Case):
    def test_ordinary(self):
        self.assert_told(True, is_served, ABC, (3, 4))
        self.assert_told(True, is_served, ABC, (4,))
        self.assert_told(False, is_served, ABC, (3,))
        self.assert_told(False, is_served, ABC, (1,))
        self.assert_told(False, is_served, ABC, (1, 2, 3, 4))
        self.assert_told(False, is_served, SQUARE, (1, 2))
        self.assert_told(True, is_served, FEW, (1, 2, 3, 4, 5))
        self.assert_told(True, is_served, FEW, (2,))

    def test_all_lots(self):
        for bundle in bundles():
            wanted = served_lots(bundle)
            for lot in all_lots(bundle[0]):
                self.assertIs(is_served(bundle, lot), lot in wanted, (bundle, lot))

    def test_the_empty_lot_and_names_without_a_clause(self):
        for bundle in bundles():
            self.assert_told(True, is_served, bundle, ())
            idle = tuple(k for k in range(1, bundle[0] + 1) if k not in names_in(bundle[1]))
            self.assert_told(True, is_served, bundle, idle)
        for names in range(1, 8):
            for lot in all_lots(names)[::3]:
                self.assert_told(True, is_served, (names, ()), lot)
                self.assert_told(True, is_served, (names, ((),)), lot)

    def test_two_together(self):
        for bundle in fewer_bundles():
            for one, other in itertools.combinations(served_lots(bundle)[:12], 2):
                self.assertIs(is_served(bundle, tuple(sorted(set(one + other)))), True)

    def test_wrong_lots(self):
        for bundle in (SQUARE, (2, ()), (2, ((),))):
            for thing in ODD + [(-1,), (3,), (2, 1), (1, 1), [1], (True,), (1, None), (1, -2)]:
                self.assertFalse(is_lot_of(2, thing))
                self.assert_keeps_given(BadLot, is_served, bundle, thing)
        for names in range(1, 8):
            self.assert_keeps_given(BadLot, is_served, (names, ()), (names + 1,))

    def test_bundle_first(self):
        for thing in ((), (1,), None, (0,)):
            self.assert_needs_bundle(is_served, thing)


class GreatestServed(Case):
    def test_ordinary(self):
        self.assert_told((3, 4), greatest_served, ABC)
        self.assert_told((), greatest_served, SQUARE)
        self.assert_told((1, 2, 3, 4, 5), greatest_served, FEW)
        self.assert_told((5, 6, 7), greatest_served, SIGNS)
        self.assert_told((2,), greatest_served, (2, ((-1,), (1,))))
        self.assert_told((2,), greatest_served, (2, ((-1,), (1,), (1, 2))))

    def test_by_all_lots(self):
        for bundle in bundles():
            wanted = greatest_of(bundle)
            self.assertIn(wanted, served_lots(bundle))
            self.assert_told(wanted, greatest_served, bundle)

    def test_whichever_other_names_one_takes(self):
        for bundle in fewer_bundles():
            lot = greatest_served(bundle)
            left = [row for k, row in enumerate(bundle[1]) if k not in with_names_of(bundle, lot)]
            for others in all_lots(bundle[0]):
                if others and not set(others) & set(lot):
                    having = [row for row in left if names_in([row]) & set(others)]
                    self.assertGreater(len(having), len(others))

    def test_no_clauses(self):
        for names in range(1, 8):
            every = tuple(range(1, names + 1))
            for clauses in ((), ((),), (every,), ((), every)):
                self.assert_told(every, greatest_served, (names, clauses))

    def test_bundle_needed(self):
        self.assert_needs_bundle(greatest_served)


class Residue(Case):
    def test_ordinary(self):
        self.assert_told((1, 2, 3, 4), residue, ABC)
        self.assert_told((0, 1, 2, 3), residue, SQUARE)
        self.assert_told((), residue, FEW)
        self.assert_told(tuple(range(16)), residue, SIGNS)
        self.assert_told((0,), residue, (7, ((),)))
        self.assert_told((0,), residue, (7, ((), (7,))))

    def test_by_all_lots(self):
        for bundle in bundles():
            self.assert_told(residue_of(bundle), residue, bundle)

    def test_used_clauses_are_in_it(self):
        for bundle in bundles():
            self.assertLessEqual(set(kernel(bundle)), set(residue(bundle)))

    def test_no_clauses(self):
        for names in range(1, 8):
            self.assert_told((), residue, (names, ()))

    def test_bundle_needed(self):
        self.assert_needs_bundle(residue)


class ServedPaper(Case):
    def test_each_paper_is_taken(self):
        for bundle in bundles():
            paper = self.assert_same_again(served_paper, bundle)
            self.assertEqual(served_verdict(bundle, paper), ("told", greatest_of(bundle)), bundle)
            self.assert_told(greatest_of(bundle), check_served, bundle, paper)

    def test_the_setting_is_tidy(self):
        for bundle in bundles():
            _, matching, _ = served_paper(bundle)
            self.assertTrue(is_matched(bundle, matching))
            self.assertTrue(is_tidy(bundle, tuple(sorted([k for _, k in matching], key=abs))))

    def test_doubles_without_a_name_and_with_all(self):
        for names in range(1, 8):
            every = tuple(range(1, names + 1))
            self.assert_told((every, (), ()), served_paper, (names, ()))
            self.assert_told((every, (), ()), served_paper, (names, ((),)))
            pairs = tuple(sorted([(k,) for k in every] + [(-k,) for k in every]))
            lot, matching, doubles = served_paper((names, pairs))
            self.assertEqual((lot, matching), ((), ()))
            self.assertTrue(are_doubled((names, pairs), (), doubles))

    def test_bundle_needed(self):
        self.assert_needs_bundle(served_paper)
        for thing in (ABC_PAPER, None, ((), (), ())):
            self.assert_needs_bundle(check_served, thing)


class CheckServed(Case):
    def test_ordinary(self):
        self.assert_told((3, 4), check_served, ABC, ABC_PAPER)
        lot, matching, doubles = ABC_PAPER
        self.assert_told((3, 4), check_served, ABC, (lot, matching, ((3, 4, 2), (3, 2, 4))))
        wrong = [((1, 2, 3),), doubles + doubles[:1], (doubles[1], (1, 2, 1)), ((1, 2, 2), (1, 2, 4)),
                 ((1, 3, 2), (1, 2, 4)), ((0, 2, 3), (1, 2, 4)), ((1, 2, 3), (1, 2, 3)), (), None]
        for thing in wrong:
            self.assert_refused(BadPaper, "part", "doubles", check_served, ABC, (lot, matching, thing))
        for thing in (((0, -3),), ((0, -3), (5, 3)), ((0, -2), (5, 4)), ((0, -3), (1, -1), (5, 4)), ()):
            self.assert_refused(BadPaper, "part", "matching", check_served, ABC, (lot, thing, doubles))

    def test_a_served_lot_that_is_not_the_greatest(self):
        for bundle in fewer_bundles():
            lot, matching, doubles = served_paper(bundle)
            for other in served_lots(bundle):
                if other != lot and not with_names_of(bundle, other):
                    self.assert_refused(BadPaper, "part", "doubles", check_served, bundle,
                                        (other, (), doubles))
        self.assert_refused(BadPaper, "part", "doubles", check_served, ABC,
                            ((4,), ((5, 4),), ((1, 2, 0, 3), (1, 2, 0, 4), (1, 2, 0, 0))))

    def test_all_doubles(self):
        told = 0
        for bundle in ((2, ((-1,), (1,))), (2, ((-1,), (-1, 2), (1,))), (2, ((-2,), (-1,), (1, 2)))):
            numbers = range(len(bundle[1]))
            for lot in all_lots(2):
                rows = list(itertools.product(numbers, repeat=3 - len(lot)))
                for doubles in itertools.product(rows, repeat=2 - len(lot)):
                    for matching in ((), ((1, 2),)):
                        paper = (lot, matching, doubles)
                        verdict = served_verdict(bundle, paper)
                        self.assert_verdict(verdict, check_served, bundle, paper)
                        if verdict[0] == "told":
                            told += 1
                            self.assertEqual(lot, greatest_of(bundle))
        self.assertGreater(told, 2)

    def test_form_then_lot_then_matching_then_doubles(self):
        lot, matching, doubles = ABC_PAPER
        wrong = [thing for thing in ODD + [(), ABC_PAPER[:2], (*ABC_PAPER, ()), list(ABC_PAPER)]
                 if not (type(thing) is tuple and len(thing) == 3)]
        for thing in wrong:
            self.assert_refused(BadPaper, "part", "form", check_served, ABC, thing)
            self.assert_refused(BadPaper, "part", "form", check_served, (7, ()), thing)
        for thing in ODD + [(5,), (-1,), (4, 3), [3, 4]]:
            for paper in ((thing, matching, doubles), (thing, None, None), (thing, thing, thing)):
                self.assert_refused(BadPaper, "part", "lot", check_served, ABC, paper)
            for paper in ((lot, thing, doubles), (lot, thing, None), (lot, thing, thing)):
                self.assert_refused(BadPaper, "part", "matching", check_served, ABC, paper)
            for paper in ((lot, matching, thing), (lot, matching, (thing, thing)),
                          (lot, matching, (doubles[0], thing))):
                self.assert_refused(BadPaper, "part", "doubles", check_served, ABC, paper)
        self.assert_refused(BadPaper, "part", "lot", check_served, ABC, (1, 3, 2))

    def test_something_otherwise_at_any_place(self):
        papers = [(ABC, ABC_PAPER), ((1, ()), ((1,), (), ())), ((7, ((),)), (tuple(range(1, 8)), (), ()))]
        papers += [(b, served_paper(b)) for b in bundles()[-15:]]
        for bundle, paper in papers:
            for thing in changed(paper):
                self.assert_verdict(served_verdict(bundle, thing), check_served, bundle, thing)

    def test_papers_of_other_bundles(self):
        some = fewer_bundles()
        papers = [served_paper(bundle) for bundle in some]
        for bundle in some[::2]:
            for paper in papers:
                self.assert_verdict(served_verdict(bundle, paper), check_served, bundle, paper)


if __name__ == "__main__":
    unittest.main()
