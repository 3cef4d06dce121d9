"""The functions of idleclauses.halves: points [12], [13] and [17]."""

import itertools
import random
import unittest

from idleclauses.errors import BadHalves, BadPaper, BadWeighing
from idleclauses.halves import (
    all_halves, are_halves, check_halves, halves_paper, rounded, tidy_by,
)
from idleclauses.kernels import kernel
from idleclauses.readings import all_plain
from idleclauses.settings import is_tidy, need_setting
from tests.helper import Case, named_bundles, odd_integers, odd_things, odd_tuples
from tests.opinions import changed, is_worded
from tests.opinions_names import (
    bundles, do_clash, fewer_bundles, halves_of, halves_verdict, is_weighed, is_weighing_of, weight,
)

# A clause of all signs of three names: each name has to weigh half, so each clause too much.
CUBE = (3, tuple(sorted(itertools.product((1, -1), (2, -2), (3, -3)))))
SQUARE = (2, ((-1, -2), (-1, 2), (1, -2), (1, 2)))
RULES = (4, ((-3, 4), (-2, -3, -4), (-1, -2, 3), (1,)))
WIDE = (3, ((-1, -2), (1, 2, 3)))
SIGNS = named_bundles()[8]
ODD = odd_things() + odd_tuples() + odd_integers() + [0, 1, 2, ()]


def wrong_rows(bundle):
    """Things of many kinds that are no HALVES of a BUNDLE."""
    names = bundle[0]
    row = halves_of(bundle)[0] if halves_of(bundle) else (1,) * names
    found = ODD + [list(row), row[1:], row + (1,), row + (0,), (row,), str(row), (3,) * names]
    for at in range(names):
        for thing in (None, True, False, 3, -1, "1", b"1", (1,), [1], 10 ** 59, -10 ** 59):
            found.append(row[:at] + (thing,) + row[at + 1:])
    found += itertools.product((0, 1, 2, 3), repeat=min(names, 3))
    return [thing for thing in found if not is_weighed(bundle, 2, thing)]


class Bundles(Case):
    def test_there_are_both_sorts(self):
        found = [bool(halves_of(bundle)) for bundle in bundles()]
        self.assertGreater(found.count(True), 100)
        self.assertGreater(found.count(False), 90)


class AreHalves(Case):
    def test_ordinary(self):
        self.assert_told(True, are_halves, SQUARE, (1, 1))
        for row in ((0, 2), (2, 0), (0, 0), (2, 2), (1, 0), (0, 1), (1, 2), (2, 1)):
            self.assert_told(False, are_halves, SQUARE, row)
        self.assert_told(True, are_halves, RULES, (2, 2, 2, 2))
        self.assert_told(False, are_halves, RULES, (0, 0, 0, 0))
        self.assert_told(False, are_halves, WIDE, (1, 1, 1))
        for row in ((0, 2, 0), (1, 1, 0), (2, 0, 0)):
            self.assert_told(True, are_halves, WIDE, row)
        for row in ((0, 2, 1), (1, 1, 1), (1, 0, 0), (2, 2, 0)):
            self.assert_told(False, are_halves, WIDE, row)

    def test_all_rows(self):
        for bundle in fewer_bundles():
            wanted = halves_of(bundle)
            for row in list(itertools.product((0, 1, 2), repeat=bundle[0]))[::bundle[0] ** 2]:
                self.assertIs(are_halves(bundle, row), row in wanted)

    def test_any_value(self):
        for bundle in (SQUARE, RULES, CUBE, (1, ()), (7, ((),))):
            for thing in wrong_rows(bundle):
                self.assert_told(False, are_halves, bundle, thing)

    def test_no_clauses_and_clauses_without_weight(self):
        for names in range(1, 8):
            for clauses in ((), ((),), ((names,),), ((), (-names,))):
                for row in ((0,) * names, (1,) * names, (2,) * names):
                    self.assert_told(True, are_halves, (names, clauses), row)
                for row in ((), (1,) * (names + 1), (1,) * (names - 1), (3,) * names):
                    self.assert_told(False, are_halves, (names, clauses), row)

    def test_bundle_first(self):
        for thing in ((1, 1), (), None):
            self.assert_needs_bundle(are_halves, thing)


class AllHalves(Case):
    def test_ordinary(self):
        self.assert_told(((1, 1),), all_halves, SQUARE)
        self.assert_told((), all_halves, CUBE)
        self.assert_told(((0, 0), (0, 1), (0, 2), (1, 0), (1, 1), (2, 0)), all_halves, (2, ((1, 2),)))

    def test_by_all_rows(self):
        for bundle in bundles():
            self.assert_told(halves_of(bundle), all_halves, bundle)

    def test_each_row(self):
        for names in range(1, 8):
            for clauses in ((), ((),), ((-names,), (names,))):
                found = all_halves((names, clauses))
                self.assertEqual(found, tuple(itertools.product((0, 1, 2), repeat=names)))

    def test_sixteen_clauses(self):
        self.assert_told((), all_halves, SIGNS)
        pairs = tuple(sorted((s * a, t * b) for a, b in ((1, 2), (3, 4), (5, 6), (6, 7))
                             for s in (1, -1) for t in (1, -1)))
        self.assertEqual(len(pairs), 16)
        self.assert_told(((1,) * 7,), all_halves, (7, pairs))

    def test_plain_readings_are_halves(self):
        for bundle in bundles():
            found = all_halves(bundle)
            for lot in all_plain(bundle)[:20]:
                row = tuple(0 if name in lot else 2 for name in range(1, bundle[0] + 1))
                self.assertIn(row, found)

    def test_bundle_needed(self):
        self.assert_needs_bundle(all_halves)


class Rounded(Case):
    def test_ordinary(self):
        self.assert_told((0, 1, 2), rounded, (3, ()), (4, (1, 2, 3)))
        self.assert_told((0, 0, 2), rounded, (3, ()), (5, (1, 2, 3)))
        self.assert_told((0, 2, 1), rounded, (3, ((1, 3), (2,))), (10, (0, 6, 5)))
        self.assert_told((1, 1), rounded, SQUARE, (2, (1, 1)))
        self.assert_told((1, 1), rounded, SQUARE, (100, (50, 50)))

    def test_d_1_and_very_great_d(self):
        for row in itertools.product((0, 1), repeat=3):
            self.assert_told(tuple(2 * k for k in row), rounded, (3, ()), (1, row))
        great = 10 ** 60 - 2
        half = great // 2
        self.assert_told((0, 1, 2, 0, 2), rounded, (5, ()), (great, (half - 1, half, half + 1, 0, great)))
        odd = 10 ** 60 - 1
        self.assert_told((0, 2, 0), rounded, (3, ()), (odd, (odd // 2, odd // 2 + 1, 1)))
        self.assert_told((1, 1), rounded, SQUARE, (great, (half, half)))
        self.assert_keeps_given(BadWeighing, rounded, SQUARE, (great, (half, half + 1)))
        self.assert_keeps_given(BadWeighing, rounded, SQUARE, (odd, (odd // 2, odd // 2)))

    def test_a_weighing_rounded_is_halves(self):
        chance = random.Random(5)
        told = 0
        for bundle in bundles():
            for whole in (1, 2, 3, 4, 7, 10 ** 59):
                row = tuple(chance.choice((0, whole // 2, whole, whole - whole // 2))
                            for _ in range(bundle[0]))
                if is_weighed(bundle, whole, row):
                    told += 1
                    found = self.assert_same_again(rounded, bundle, (whole, row))
                    self.assertTrue(is_weighed(bundle, 2, found))
                    self.assertEqual(found, tuple((2 * k > whole) + (2 * k >= whole) for k in row))
                else:
                    self.assert_keeps_given(BadWeighing, rounded, bundle, (whole, row))
        self.assertGreater(told, 300)

    def test_halves_rounded_are_themselves(self):
        for bundle in bundles():
            for row in halves_of(bundle)[:30]:
                self.assert_told(row, rounded, bundle, (2, row))

    def test_wrong_weighings(self):
        for bundle in (SQUARE, RULES, CUBE, (1, ()), (7, ((),))):
            row = (1,) * bundle[0]
            wrong = ODD + [row, [2, row], (2, list(row)), (2, row, row), (2,), (2, None), (2, ())]
            wrong += [(whole, row) for whole in odd_things() + [0, -1, -2, -10 ** 59, (2,), ()]]
            wrong += [(1, (0,) * bundle[0] + (0,)), (1, (2,) * bundle[0]), (1, (-1,) * bundle[0])]
            wrong += [(2, thing) for thing in wrong_rows(bundle)]
            for thing in wrong:
                if not is_weighing_of(bundle, thing):
                    self.assert_keeps_given(BadWeighing, rounded, bundle, thing)

    def test_something_otherwise_at_any_place(self):
        for bundle, weighing in ((SQUARE, (4, (2, 2))), ((1, ()), (1, (0,))), (RULES, (3, (3, 3, 3, 3)))):
            for thing in changed(weighing):
                if is_weighing_of(bundle, thing):
                    self.assert_same_again(rounded, bundle, thing)
                else:
                    self.assert_keeps_given(BadWeighing, rounded, bundle, thing)

    def test_bundle_first(self):
        for thing in ((2, (1, 1)), (), None, (0, (1,))):
            self.assert_needs_bundle(rounded, thing)


class HalvesPaper(Case):
    def test_each_paper_is_taken(self):
        for bundle in bundles():
            paper = self.assert_same_again(halves_paper, bundle)
            word = "halves" if halves_of(bundle) else "clash"
            self.assertEqual(halves_verdict(bundle, paper), ("told", word), bundle)
            self.assert_told(word, check_halves, bundle, paper)

    def test_no_clauses(self):
        for names in range(1, 8):
            for clauses in ((), ((),), ((names,),), ((), (-names,), (names,))):
                word, row = halves_paper((names, clauses))
                self.assertEqual(word, "halves")
                self.assertTrue(is_weighed((names, clauses), 2, row))

    def test_seven_names_in_one_clause(self):
        pairs = [(s * k, t * (k + 1)) for k in (1, 3) for s in (1, -1) for t in (1, -1)]
        bundle = (7, tuple(sorted(pairs + [(1, 2, 3, 4, 5, 6, 7)])))
        self.assert_told("clash", check_halves, bundle, halves_paper(bundle))
        bundle = (7, tuple(sorted(pairs[:4] + [(1, 2, 3, 4, 5, 6, 7)])))
        self.assert_told("halves", check_halves, bundle, halves_paper(bundle))

    def test_bundle_needed(self):
        self.assert_needs_bundle(halves_paper)
        for thing in (("halves", (1, 1)), None, ()):
            self.assert_needs_bundle(check_halves, thing)


class CheckHalves(Case):
    def test_ordinary(self):
        self.assert_told("halves", check_halves, SQUARE, ("halves", (1, 1)))
        self.assert_refused(BadPaper, "part", "halves", check_halves, SQUARE, ("halves", (1, 2)))
        self.assert_told("clash", check_halves, CUBE, ("clash", (1,) * 8))
        self.assert_refused(BadPaper, "part", "clash", check_halves, CUBE, ("clash", (0,) * 8))
        self.assert_refused(BadPaper, "part", "clash", check_halves, SQUARE, ("clash", (1,) * 4))

    def test_what_is_taken_has_to_be_more(self):
        # Each name takes 2 of 4 HEFTS, so both take just as much as all HEFTS together.
        self.assert_refused(BadPaper, "part", "clash", check_halves, SQUARE, ("clash", (1, 1, 1, 1)))
        for bundle in ((1, ()), (7, ()), (7, ((),))):
            hefts = (0,) * len(bundle[1])
            self.assert_refused(BadPaper, "part", "clash", check_halves, bundle, ("clash", hefts))

    def test_hefts_of_0_and_of_very_many_figures(self):
        bundle = (4, tuple(sorted(CUBE[1] + ((1, 4), (4,)))))
        hefts = tuple(1 if row in CUBE[1] else 0 for row in bundle[1])
        self.assert_told("clash", check_halves, bundle, ("clash", hefts))
        for times in (7, 10 ** 30, 10 ** 59, 10 ** 60 - 1):
            great = tuple(k * times for k in hefts)
            self.assert_told("clash", check_halves, bundle, ("clash", great))
        beyond = tuple(k * 10 ** 60 for k in hefts)
        self.assert_refused(BadPaper, "part", "clash", check_halves, bundle, ("clash", beyond))
        below = tuple(-1 if k == 0 else 10 ** 30 for k in hefts)
        self.assert_refused(BadPaper, "part", "clash", check_halves, bundle, ("clash", below))
        for thing in (True, False, None, "1", (1,), [1]):
            odd = hefts[:-1] + (thing,)
            self.assert_refused(BadPaper, "part", "clash", check_halves, bundle, ("clash", odd))
        for wrong in (hefts[1:], hefts + (1,), hefts + (0,), list(hefts), (), (hefts,)):
            self.assert_refused(BadPaper, "part", "clash", check_halves, bundle, ("clash", wrong))

    def test_never_one_of_each_sort(self):
        chance = random.Random(8)
        told = 0
        for bundle in bundles():
            many = len(bundle[1])
            for _ in range(4):
                hefts = tuple(chance.choice((0, 1, 1, 2, 3)) for _ in range(many))
                verdict = halves_verdict(bundle, ("clash", hefts))
                self.assert_verdict(verdict, check_halves, bundle, ("clash", hefts))
                self.assertFalse(verdict[0] == "told" and halves_of(bundle))
                told += verdict[0] == "told"
                row = tuple(chance.choice((0, 1, 2)) for _ in range(bundle[0]))
                verdict = halves_verdict(bundle, ("halves", row))
                self.assert_verdict(verdict, check_halves, bundle, ("halves", row))
        self.assertGreater(told, 20)

    def test_form(self):
        paper = ("halves", (1, 1))
        wrong = odd_things() + odd_tuples() + odd_integers() + [
            0, (), ("halves",), (*paper, None), list(paper), ("Halves", (1, 1)), ("", (1, 1)),
            (True, (1, 1)), (("halves",), (1, 1)), (["clash"], (1, 1)), (b"clash", ()), ("plain", ()),
            ("ring", ()), ("halves clash", ()), (1, 1), (paper, paper), ("clash", (), ()),
        ]
        wrong += [(word, (1, 1)) for word in odd_things() + odd_tuples() + odd_integers()]
        for thing in wrong:
            self.assertFalse(is_worded(("halves", "clash"), thing))
            for bundle in (SQUARE, CUBE, (2, ())):
                self.assert_refused(BadPaper, "part", "form", check_halves, bundle, thing)

    def test_each_wrong_thing_behind_a_word(self):
        for bundle in (SQUARE, RULES, CUBE, (7, ())):
            for thing in wrong_rows(bundle):
                self.assert_refused(BadPaper, "part", "halves", check_halves, bundle, ("halves", thing))
                if not do_clash(bundle, thing):
                    self.assert_refused(BadPaper, "part", "clash", check_halves, bundle, ("clash", thing))

    def test_something_otherwise_at_any_place(self):
        papers = [(SQUARE, ("halves", (1, 1))), (CUBE, ("clash", (1,) * 8)), ((1, ()), ("halves", (0,)))]
        papers += [(b, halves_paper(b)) for b in bundles()[-40:]]
        for bundle, paper in papers:
            for thing in changed(paper):
                self.assert_verdict(halves_verdict(bundle, thing), check_halves, bundle, thing)

    def test_papers_of_other_bundles(self):
        some = fewer_bundles()
        papers = [halves_paper(bundle) for bundle in some]
        for bundle in some[::2]:
            for paper in papers:
                self.assert_verdict(halves_verdict(bundle, paper), check_halves, bundle, paper)


class TidyBy(Case):
    def test_ordinary(self):
        self.assert_told((), tidy_by, SQUARE, (1, 1))
        self.assert_told((1, -2, 3), tidy_by, WIDE, (0, 2, 0))
        self.assert_told((3,), tidy_by, WIDE, (1, 1, 0))
        self.assert_told((1, 2, 3), tidy_by, (3, ()), (0, 0, 0))
        self.assert_told((-1, -2, -3), tidy_by, (3, ()), (2, 2, 2))
        # Whether it is TIDY or not: the CLAUSE of one LITERAL is touched, but not met.
        self.assert_told((-1,), tidy_by, (1, ((1,),)), (2,))

    def test_the_literals_that_weigh_0(self):
        for bundle in bundles():
            for row in halves_of(bundle)[:12]:
                wanted = tuple(k for name in range(1, bundle[0] + 1) for k in (name, -name)
                               if weight(2, row, k) == 0)
                self.assert_told(wanted, tidy_by, bundle, row)
                self.assertIs(need_setting(bundle, wanted), wanted)

    def test_tidy_where_no_clause_is_short(self):
        many = 0
        for bundle in bundles():
            long = (bundle[0], tuple(row for row in bundle[1] if len(row) > 1))
            for row in halves_of(long)[:12]:
                many += 1
                self.assertTrue(is_tidy(long, tidy_by(long, row)))
                for number in kernel(long):
                    clause = long[1][number]
                    self.assertLessEqual(len(clause), 2)
                    self.assertTrue(all(weight(2, row, k) == 1 for k in clause))
        self.assertGreater(many, 300)

    def test_wrong_rows(self):
        for bundle in (SQUARE, RULES, CUBE, WIDE, (1, ()), (7, ((),))):
            for thing in wrong_rows(bundle):
                self.assert_keeps_given(BadHalves, tidy_by, bundle, thing)

    def test_bundle_first(self):
        for thing in ((1, 1), (), None):
            self.assert_needs_bundle(tidy_by, thing)


class Readings(Case):
    def test_halves_without_half_are_plain_readings(self):
        for bundle in fewer_bundles():
            wanted = {tuple(name for name, k in enumerate(row, 1) if k == 0)
                      for row in halves_of(bundle) if 1 not in row}
            self.assertEqual(wanted, set(all_plain(bundle)))


if __name__ == "__main__":
    unittest.main()
