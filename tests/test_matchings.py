"""The functions of idleclauses.matchings: point [18]."""

import random
import unittest

from idleclauses.errors import BadMatching, BadNumbers, BadPaper
from idleclauses.matchings import (
    check_excess, excess, excess_paper, greatest_matching, more_of, setting_by,
)
from idleclauses.settings import is_at_odds, met, need_setting
from tests.helper import Case, named_bundles, odd_integers, odd_things, odd_tuples
from tests.opinions import changed
from tests.opinions_names import (
    all_matchings, all_numbers, are_numbers, bundles, excess_of, excess_verdict, fewer_bundles,
    is_matched, more,
)

SQUARE = (2, ((-1, -2), (-1, 2), (1, -2), (1, 2)))
ABC = (4, ((-2, -3), (-1,), (-1, 2), (1,), (1, -2), (3, 4)))
FEW = (5, ((-4, 5), (1, 2, 3)))
SIGNS = named_bundles()[8]
ODD = odd_things() + odd_tuples() + odd_integers() + [0, 1, ()]
SQUARE_PAPER = (((0, -1), (1, 2)), (0, 1, 2, 3))


def wrong_matchings(bundle):
    """Things of many kinds that are no MATCHINGS of a BUNDLE."""
    row = greatest_matching(bundle)
    found = ODD + [list(row), dict(row), row + (None,), row + ((),), row + ((0, 0),), str(row)]
    found += [row[::-1], row + row[-1:], row[:1] + row, ((0, 1), (0, 2)), ((0,),), ((0, 1, 1),), (0, 1)]
    for at, (number, literal) in enumerate(row):
        others = [(number, -literal), (literal, number), [number, literal], (number,), number, None,
                  (number, literal, 0), (True, literal), (number, True), (None, literal),
                  (number, None), (str(number), literal), (number, str(literal)), (number, (literal,)),
                  (-1, literal), (16, literal), (10 ** 59, literal), (number, 0), (number, 8),
                  (number, -10 ** 59), (len(bundle[1]), literal), (number, literal + bundle[0])]
        others += [(number, k) for k in range(-7, 8)] + [(k, literal) for k in range(16)]
        others += [(thing, literal) for thing in odd_things()] + [(number, thing) for thing in odd_things()]
        found += [row[:at] + (other,) + row[at + 1:] for other in others]
    return [thing for thing in found if not is_matched(bundle, thing)]


def wrong_numbers(bundle):
    """Things of many kinds that are no NUMBERS of a BUNDLE."""
    many = len(bundle[1])
    row = tuple(range(many))
    found = ODD + [list(row), row + (many,), row + (None,), (-1,) + row, row + row, row[::-1], (many,),
                   (0, 0), (1, 0), (0, 1.5j), (0, True), (False,), (False, 1), (None, 1), ("0",), (row,),
                   ((0,),), [0], {0: 1}, {0}, "0", range(2), (10 ** 59,), (-10 ** 59,), row + (16, 17)]
    for at in range(many):
        found += [row[:at] + (thing,) + row[at + 1:] for thing in odd_things()]
    return [thing for thing in found if not are_numbers(bundle, thing)]


class GreatestMatching(Case):
    def test_ordinary(self):
        self.assertEqual(len(greatest_matching(SQUARE)), 2)
        self.assertEqual(len(greatest_matching(ABC)), 4)
        self.assertEqual(len(greatest_matching(FEW)), 2)
        self.assertEqual(len(greatest_matching(SIGNS)), 4)
        self.assert_told(((0, 1),), greatest_matching, (1, ((1,),)))
        self.assert_told(((1, -7),), greatest_matching, (7, ((), (-7,))))

    def test_as_many_pairs_as_any(self):
        for bundle in bundles():
            found = self.assert_same_again(greatest_matching, bundle)
            self.assertTrue(is_matched(bundle, found), bundle)
            self.assertEqual(len(bundle[1]) - len(found), excess_of(bundle))

    def test_by_all_matchings(self):
        for bundle in [b for b in bundles() if len(b[1]) < 7 and b[0] < 5]:
            longest = max(len(row) for row in all_matchings(bundle))
            self.assertEqual(len(greatest_matching(bundle)), longest)

    def test_no_pairs(self):
        for names in range(1, 8):
            self.assert_told((), greatest_matching, (names, ()))
            self.assert_told((), greatest_matching, (names, ((),)))

    def test_others_have_to_take_another_name(self):
        # The first CLAUSES could each have the name that a later one needs.
        bundle = (7, tuple(sorted([(k, k + 1) for k in range(1, 7)] + [(1,)])))
        self.assertEqual(len(greatest_matching(bundle)), 7)
        bundle = (7, tuple(sorted([(k, k + 1) for k in range(1, 7)] + [(7,)])))
        self.assertEqual(len(greatest_matching(bundle)), 7)

    def test_bundle_needed(self):
        self.assert_needs_bundle(greatest_matching)


class SettingBy(Case):
    def test_ordinary(self):
        self.assert_told((-1, 2), setting_by, SQUARE, ((0, -1), (1, 2)))
        self.assert_told((-1, 2), setting_by, SQUARE, ((0, -1), (3, 2)))
        self.assert_told((1, -2), setting_by, SQUARE, ((0, -2), (3, 1)))
        self.assert_told((2, -4), setting_by, (5, ((-4, 5), (1, 2, 3))), ((0, -4), (1, 2)))
        self.assert_told((), setting_by, SQUARE, ())

    def test_all_matchings(self):
        for bundle in [b for b in bundles() if len(b[1]) < 6 and b[0] < 5]:
            for matching in all_matchings(bundle)[::3]:
                found = setting_by(bundle, matching)
                self.assertEqual(found, tuple(sorted([k for _, k in matching], key=abs)))
                self.assertIs(need_setting(bundle, found), found)
                self.assertLessEqual({k for k, _ in matching}, set(met(bundle, found)))

    def test_greatest_ones(self):
        for bundle in bundles():
            matching = greatest_matching(bundle)
            wanted = tuple(sorted([k for _, k in matching], key=abs))
            self.assert_told(wanted, setting_by, bundle, matching)

    def test_no_pairs(self):
        for names in range(1, 8):
            for clauses in ((), ((),), ((names,),)):
                self.assert_told((), setting_by, (names, clauses), ())

    def test_wrong_matchings(self):
        for bundle in (SQUARE, ABC, FEW, SIGNS, (1, ()), (7, ((),))):
            for thing in wrong_matchings(bundle):
                self.assert_keeps_given(BadMatching, setting_by, bundle, thing)

    def test_something_otherwise_at_any_place(self):
        for bundle, matching in ((SQUARE, ((0, -1), (1, 2))), (FEW, ((0, 5), (1, 1))), ((1, ()), ())):
            for thing in changed(matching):
                if is_matched(bundle, thing):
                    self.assert_same_again(setting_by, bundle, thing)
                else:
                    self.assert_keeps_given(BadMatching, setting_by, bundle, thing)

    def test_bundle_first(self):
        for thing in ((), ((0, 1),), None):
            self.assert_needs_bundle(setting_by, thing)


class MoreOf(Case):
    def test_ordinary(self):
        self.assert_told(2, more_of, SQUARE, (0, 1, 2, 3))
        self.assert_told(1, more_of, ABC, (1, 3))
        self.assert_told(0, more_of, ABC, (1,))
        self.assert_told(12, more_of, SIGNS, tuple(range(16)))

    def test_below_0(self):
        self.assert_told(-1, more_of, SQUARE, (0,))
        self.assert_told(-2, more_of, FEW, (1,))
        self.assert_told(-3, more_of, FEW, (0, 1))
        self.assert_told(-6, more_of, (7, ((1, 2, 3, 4, 5, 6, 7),)), (0,))

    def test_no_numbers_and_the_empty_clause(self):
        for bundle in bundles():
            self.assert_told(0, more_of, bundle, ())
        self.assert_told(1, more_of, (7, ((),)), (0,))
        self.assert_told(1, more_of, (7, ((), (7,))), (0, 1))

    def test_all_numbers(self):
        chance = random.Random(4)
        for bundle in bundles():
            found = all_numbers(bundle)
            for numbers in chance.sample(found, min(len(found), 12)):
                self.assert_told(more(bundle, numbers), more_of, bundle, numbers)

    def test_wrong_numbers(self):
        for bundle in (SQUARE, ABC, FEW, SIGNS, (1, ()), (7, ((),))):
            for thing in wrong_numbers(bundle):
                self.assert_keeps_given(BadNumbers, more_of, bundle, thing)

    def test_bundle_first(self):
        for thing in ((), (0,), None, (99,)):
            self.assert_needs_bundle(more_of, thing)


class Excess(Case):
    def test_ordinary(self):
        self.assert_told(2, excess, SQUARE)
        self.assert_told(2, excess, ABC)
        self.assert_told(0, excess, FEW)
        self.assert_told(12, excess, SIGNS)
        self.assert_told(0, excess, (2, ((1,),)))
        self.assert_told(1, excess, (7, ((),)))

    def test_by_all_numbers(self):
        for bundle in bundles():
            self.assert_told(excess_of(bundle), excess, bundle)

    def test_not_at_odds_with_0(self):
        for bundle in bundles():
            if excess(bundle) == 0:
                self.assertFalse(is_at_odds(bundle))
                self.assertEqual(len(met(bundle, setting_by(bundle, greatest_matching(bundle)))),
                                 len(bundle[1]))

    def test_no_clauses(self):
        for names in range(1, 8):
            self.assert_told(0, excess, (names, ()))

    def test_bundle_needed(self):
        self.assert_needs_bundle(excess)
        self.assert_needs_bundle(excess_paper)
        for thing in (SQUARE_PAPER, None, ()):
            self.assert_needs_bundle(check_excess, thing)


class ExcessPaper(Case):
    def test_each_paper_is_taken(self):
        for bundle in bundles():
            paper = self.assert_same_again(excess_paper, bundle)
            self.assertEqual(excess_verdict(bundle, paper), ("told", excess_of(bundle)), bundle)
            self.assert_told(excess_of(bundle), check_excess, bundle, paper)

    def test_no_clauses(self):
        for names in range(1, 8):
            self.assert_told(((), ()), excess_paper, (names, ()))
            self.assert_told(((), (0,)), excess_paper, (names, ((),)))


class CheckExcess(Case):
    def test_ordinary(self):
        self.assert_told(2, check_excess, SQUARE, SQUARE_PAPER)
        self.assert_told(2, check_excess, SQUARE, (((2, -2), (3, 1)), (0, 1, 2, 3)))
        self.assert_refused(BadPaper, "part", "count", check_excess, SQUARE, (((0, -1),), (0, 1, 2, 3)))
        self.assert_refused(BadPaper, "part", "count", check_excess, SQUARE, (((0, -1), (1, 2)), (0, 1, 2)))
        self.assert_told(0, check_excess, FEW, (((0, 5), (1, 1)), ()))
        self.assert_refused(BadPaper, "part", "count", check_excess, FEW, (((0, 5), (1, 1)), (0,)))

    def test_whatever_agrees_tells_the_excess(self):
        for bundle in [b for b in bundles() if len(b[1]) < 5 and b[0] < 4]:
            for matching in all_matchings(bundle):
                for numbers in all_numbers(bundle):
                    verdict = excess_verdict(bundle, (matching, numbers))
                    if verdict[0] == "told":
                        self.assertEqual(verdict[1], excess_of(bundle))
                        self.assert_told(verdict[1], check_excess, bundle, (matching, numbers))
                    else:
                        self.assertEqual(verdict, ("part", "count"))
                        self.assert_verdict(verdict, check_excess, bundle, (matching, numbers))

    def test_form_then_matching_then_numbers_then_count(self):
        matching, numbers = SQUARE_PAPER
        wrong = [thing for thing in ODD + [(matching,), (matching, numbers, 0), [matching, numbers]]
                 if not (type(thing) is tuple and len(thing) == 2)]
        for thing in wrong:
            self.assert_refused(BadPaper, "part", "form", check_excess, SQUARE, thing)
            self.assert_refused(BadPaper, "part", "form", check_excess, (7, ()), thing)
        for thing in wrong_matchings(SQUARE):
            for other in (numbers, (), None, thing):
                self.assert_refused(BadPaper, "part", "matching", check_excess, SQUARE, (thing, other))
        for thing in wrong_numbers(SQUARE):
            for one in (matching, (), matching[:1]):
                self.assert_refused(BadPaper, "part", "numbers", check_excess, SQUARE, (one, thing))
        self.assert_refused(BadPaper, "part", "matching", check_excess, SQUARE, (1, 2))

    def test_something_otherwise_at_any_place(self):
        papers = [(SQUARE, SQUARE_PAPER), ((1, ()), ((), ())), ((7, ((),)), ((), (0,)))]
        papers += [(b, excess_paper(b)) for b in bundles()[-25:]]
        for bundle, paper in papers:
            for thing in changed(paper):
                self.assert_verdict(excess_verdict(bundle, thing), check_excess, bundle, thing)

    def test_papers_of_other_bundles(self):
        some = fewer_bundles()
        papers = [excess_paper(bundle) for bundle in some]
        for bundle in some[::2]:
            for paper in papers:
                self.assert_verdict(excess_verdict(bundle, paper), check_excess, bundle, paper)


if __name__ == "__main__":
    unittest.main()
