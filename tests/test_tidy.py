"""The functions of idleclauses.tidy: point [8], and the facts of [5] on TIDY SETTINGS."""

import unittest

from idleclauses.bundles import need_bundle, without
from idleclauses.errors import BadNumber, BadSetting, BadTidy
from idleclauses.kernels import kernel
from idleclauses.settings import is_tidy, met, need_setting
from idleclauses.tidy import (
    all_tidy, followed_by, greatest_tidy, least_tidy, peeled, struck_by,
)
from tests.helper import (
    Case, all_rows, does_meet, does_touch, layered_bundles, named_bundles, odd_integers, odd_things,
    odd_tuples, small_bundles, some_bundles, whole_settings,
)
from tests.opinions import is_row, is_tidy_setting, tidy_settings, used_numbers

ABC = (4, ((-2, -3), (-1,), (-1, 2), (1,), (1, -2), (3, 4)))
FOUR = (4, ((-4,), (-2, 3), (1, 2), (1, 4)))
SIGNS = named_bundles()[8]


def bundles():
    """BUNDLES of many kinds."""
    return small_bundles() + named_bundles() + some_bundles(60) + layered_bundles(40) + [ABC, FOUR]


def lean_bundles():
    """BUNDLES of few names, to try each two SETTINGS of."""
    return small_bundles()[::9] + [b for b in named_bundles() + some_bundles(40) if b[0] <= 4]


class AllTidy(Case):
    def test_ordinary(self):
        self.assert_told(((), (-2, 3), (3,)), all_tidy, (3, ((-1,), (-1, -2), (1,), (2, 3))))
        self.assert_told(((), (1,), (1, -2), (1, 2), (2,)), all_tidy, (2, ((1,), (1, 2))))
        self.assert_told(((),), all_tidy, (1, ((-1,), (1,))))
        self.assert_told(((), (2,)), all_tidy, (2, ((-1,), (1,), (1, 2))))

    def test_by_all_settings(self):
        for bundle in bundles():
            self.assert_told(tuple(tidy_settings(bundle)), all_tidy, bundle)

    def test_they_ascend(self):
        for bundle in bundles():
            found = all_tidy(bundle)
            self.assertEqual(found, tuple(sorted(set(found))))
            self.assertEqual(found[0], ())

    def test_nothing_to_touch(self):
        for names in range(1, 8):
            for clauses in ((), ((),)):
                self.assert_told(tuple(sorted(all_rows(names))), all_tidy, (names, clauses))

    def test_names_that_no_clause_has(self):
        found = all_tidy(SIGNS)
        self.assertEqual(found, tuple(sorted(row for row in all_rows(7) if all(abs(k) > 4 for k in row))))

    def test_bundle_needed(self):
        self.assert_needs_bundle(all_tidy)


class LeastTidy(Case):
    def test_ordinary(self):
        self.assert_told(((4,),), least_tidy, ABC, 5)
        self.assert_told(((-3, 4),), least_tidy, ABC, 0)
        for number in (1, 2, 3, 4):
            self.assert_told((), least_tidy, ABC, number)
        self.assert_told(((1,),), least_tidy, FOUR, 3)
        self.assert_told(((3,),), least_tidy, FOUR, 1)
        self.assert_told(((1, -4),), least_tidy, FOUR, 0)

    def test_several_that_are_least(self):
        self.assert_told(((-2,), (1,), (3,)), least_tidy, (3, ((1, -2, 3),)), 0)
        self.assert_told(((-1, -2), (1, 2)), least_tidy, (2, ((-1, 2), (1, -2))), 0)
        wanted = ((-1, -2, -3), (1, 2, 3))
        self.assert_told(wanted, least_tidy, (3, ((-1, 3), (1, -2), (2, -3))), 2)

    def test_none_of_a_used_clause(self):
        for bundle in bundles():
            for number in kernel(bundle):
                self.assert_told((), least_tidy, bundle, number)
        for number in range(16):
            self.assert_told((), least_tidy, SIGNS, number)
        for names in range(1, 8):
            self.assert_told((), least_tidy, (names, ((), (1,))), 0)

    def test_by_all_settings(self):
        for bundle in bundles():
            for number, clause in enumerate(bundle[1]):
                found = [row for row in tidy_settings(bundle) if does_touch(row, clause)]
                least = min([len(row) for row in found], default=0)
                wanted = tuple(row for row in found if len(row) == least)
                self.assert_told(wanted, least_tidy, bundle, number)

    def test_wrong_numbers(self):
        for thing in odd_things() + odd_tuples() + odd_integers() + [6, -1, -6, ()]:
            self.assert_keeps_given(BadNumber, least_tidy, ABC, thing)
        for names in range(1, 8):
            for thing in (0, -1, None):
                self.assert_keeps_given(BadNumber, least_tidy, (names, ()), thing)
        self.assert_keeps_given(BadNumber, least_tidy, SIGNS, 16)

    def test_bundle_first(self):
        for thing in (0, 99, None, True):
            self.assert_needs_bundle(least_tidy, thing)


class GreatestTidy(Case):
    def test_what_it_meets_and_touches(self):
        for bundle in bundles():
            setting = self.assert_same_again(greatest_tidy, bundle)
            self.assertTrue(is_row(bundle[0], setting))
            for number, clause in enumerate(bundle[1]):
                self.assertEqual(does_meet(setting, clause), number not in used_numbers(bundle))
                self.assertEqual(does_touch(setting, clause), number not in used_numbers(bundle))
            self.assertIs(is_tidy(bundle, setting), True)

    def test_ordinary(self):
        self.assert_told((-3, 4), greatest_tidy, ABC)
        self.assert_told((1,), greatest_tidy, (1, ((1,),)))
        self.assert_told((1, 2, -3), greatest_tidy, (3, ((-3,), (1,), (2,))))

    def test_all_used_or_no_clauses(self):
        for bundle in ((1, ((-1,), (1,))), SIGNS, (7, ()), (7, ((),))):
            setting = greatest_tidy(bundle)
            self.assertIs(need_setting(bundle, setting), setting)
            self.assertEqual(met(bundle, setting), ())
            self.assertTrue(is_tidy(bundle, setting))

    def test_bundle_needed(self):
        self.assert_needs_bundle(greatest_tidy)


class FollowedBy(Case):
    def test_ordinary(self):
        self.assert_told((1, 2, -3), followed_by, FOUR, (1, -3), (2, 3))
        self.assert_told((1, 2, 3), followed_by, FOUR, (2, 3), (1, -3))
        self.assert_told((-1, 2, -3, 4), followed_by, FOUR, (2, 4), (-1, -2, -3, -4))
        self.assert_told((-1,), followed_by, FOUR, (-1,), (1,))
        self.assert_told((1, 2, 3, 4), followed_by, FOUR, (4,), (1, 2, 3))

    def test_nothing_on_a_side(self):
        for bundle in (FOUR, (7, ()), (1, ((),))):
            for setting in all_rows(bundle[0])[::50] + [(), (1,), (-1,)]:
                self.assert_told(setting, followed_by, bundle, (), setting)
                self.assert_told(setting, followed_by, bundle, setting, ())
                self.assert_told(setting, followed_by, bundle, setting, setting)
                self.assert_told(setting, followed_by, bundle, setting, tuple(-k for k in setting))

    def test_each_two_settings(self):
        for names in (1, 2, 3):
            for one in all_rows(names):
                for other in all_rows(names):
                    found = {abs(k): k for k in other}
                    found.update({abs(k): k for k in one})
                    wanted = tuple(found[name] for name in sorted(found))
                    self.assert_told(wanted, followed_by, (names, ()), one, other)

    def test_wrong_settings(self):
        for thing in odd_things() + odd_tuples() + odd_integers() + [0, 1, (5,), (-5,), (1, 5)]:
            for right in ((), (1, -2), (4,)):
                self.assert_keeps_given(BadSetting, followed_by, FOUR, thing, right)
                self.assert_refused(BadSetting, "given", thing, followed_by, FOUR, right, thing)
            self.assert_refused(BadSetting, "given", thing, followed_by, FOUR, thing, (0,))
            self.assert_refused(BadSetting, "given", (0,), followed_by, FOUR, (0,), thing)

    def test_names_of_this_bundle(self):
        for names in range(1, 8):
            self.assert_keeps_given(BadSetting, followed_by, (names, ()), (names + 1,), ())
            self.assert_refused(BadSetting, "given", (-names - 1,), followed_by, (names, ()), (),
                                (-names - 1,))

    def test_bundle_first(self):
        for one in ((1,), None, (0,), []):
            for other in ((1,), None, (0,), []):
                self.assert_needs_bundle(followed_by, one, other)

    def test_tidy_ones_behind_one_another_are_tidy(self):
        for bundle in lean_bundles():
            for one in tidy_settings(bundle):
                left = struck_by(bundle, one)
                for other in all_tidy(left):
                    self.assertTrue(is_tidy_setting(bundle, followed_by(bundle, one, other)))


class StruckBy(Case):
    def test_ordinary(self):
        self.assert_told((4, ((-2, -3), (1,), (1, -2), (3, 4))), struck_by, ABC, (-1,))
        self.assert_told((4, ((-2, -3), (-1,), (-1, 2), (1,), (1, -2))), struck_by, ABC, (4,))
        self.assert_told((4, ()), struck_by, FOUR, (1, 2, 3, -4))

    def test_nothing_met(self):
        for bundle in bundles():
            self.assert_told(bundle, struck_by, bundle, ())
        self.assert_told((1, ((),)), struck_by, (1, ((),)), (1,))
        self.assert_told((7, ()), struck_by, (7, ()), (1, 2, 3, 4, 5, 6, 7))

    def test_all_settings(self):
        for bundle in small_bundles()[::5] + some_bundles(10) + named_bundles():
            for setting in all_rows(bundle[0]):
                found = struck_by(bundle, setting)
                wanted = (bundle[0], tuple(row for row in bundle[1] if not does_meet(setting, row)))
                self.assertEqual(found, wanted)
                self.assertIs(need_bundle(found), found)

    def test_what_is_used_is_left(self):
        for bundle in bundles():
            found = {bundle[1][k] for k in kernel(bundle)}
            for setting in all_tidy(bundle)[:40]:
                left = struck_by(bundle, setting)
                self.assertEqual(found, {left[1][k] for k in kernel(left)})

    def test_wrong_settings(self):
        for thing in odd_things() + odd_tuples() + odd_integers() + [0, 1, (5,), (-5,), (1, 5)]:
            self.assert_keeps_given(BadSetting, struck_by, FOUR, thing)
            self.assert_keeps_given(BadSetting, struck_by, (4, ()), thing)

    def test_bundle_first(self):
        for thing in ((1,), (), None, (0,), []):
            self.assert_needs_bundle(struck_by, thing)


class Peeled(Case):
    def test_ordinary(self):
        self.assert_told((4, ((-2, -3), (-1,), (-1, 2), (1,), (1, -2))), peeled, ABC, ((4,),))
        self.assert_told((4, ABC[1][1:5]), peeled, ABC, ((4,), (-3,)))
        self.assert_told((4, ABC[1][1:5]), peeled, ABC, ((-3, 4),))
        self.assert_refused(BadTidy, "number", 0, peeled, ABC, ((-3,), (4,)))
        self.assert_refused(BadTidy, "number", 2, peeled, ABC, ((4,), (-3,), (2,)))

    def test_tidy_in_what_is_left_by_then(self):
        bundle = (3, ((-2, 3), (-1, 2), (1,)))
        self.assert_told((3, ()), peeled, bundle, ((3,), (2,), (1,)))
        self.assert_refused(BadTidy, "number", 0, peeled, bundle, ((2,), (3,), (1,)))
        self.assert_refused(BadTidy, "number", 1, peeled, bundle, ((3,), (1,), (2,)))
        self.assert_told((3, ()), peeled, bundle, ((3,), (2,), (1,), (-1,), (-2,)))

    def test_no_setting(self):
        for bundle in bundles():
            self.assert_told(bundle, peeled, bundle, ())

    def test_20_but_not_21(self):
        for bundle in (ABC, (7, ()), SIGNS, (1, ((),))):
            self.assert_told(bundle, peeled, bundle, ((),) * 20)
            self.assert_refused(BadTidy, "number", None, peeled, bundle, ((),) * 21)
            self.assert_refused(BadTidy, "number", None, peeled, bundle, (None,) * 21)
            self.assert_refused(BadTidy, "number", None, peeled, bundle, ((),) * 20000)
            self.assert_refused(BadTidy, "number", 19, peeled, bundle, ((),) * 19 + (None,))
            self.assert_refused(BadTidy, "number", 0, peeled, bundle, (None,) * 20)
        self.assert_told((4, ABC[1][1:5]), peeled, ABC, ((),) * 18 + ((4,), (-3,)))
        self.assert_refused(BadTidy, "number", 19, peeled, ABC, ((),) * 19 + ((-3,),))

    def test_settings_one_by_one(self):
        for bundle in bundles():
            row = ()
            for at in range(bundle[0]):
                left = peeled(bundle, row)
                row += (all_tidy(left)[-1 - at * 5 % len(all_tidy(left))],)
            left = bundle
            for setting in row:
                self.assertTrue(is_tidy_setting(left, setting))
                left = (left[0], tuple(c for c in left[1] if not does_meet(setting, c)))
            self.assert_told(left, peeled, bundle, row)
            used = {bundle[1][k] for k in used_numbers(bundle)}
            self.assertLessEqual(used, set(left[1]))
            self.assertEqual(used, {left[1][k] for k in kernel(left)})

    def test_till_nothing_is_touched_just_the_used_ones_are_left(self):
        for bundle in bundles():
            left = bundle
            while any(does_touch(row, clause) for row in all_tidy(left) for clause in left[1]):
                touching = [row for row in all_tidy(left) if met(left, row)]
                left = peeled(left, (touching[len(touching) // 2],))
            self.assertEqual(left[1], tuple(bundle[1][k] for k in kernel(bundle)))

    def test_the_first_wrong_one(self):
        for bundle in lean_bundles():
            for one in all_rows(bundle[0]):
                if not is_tidy_setting(bundle, one):
                    self.assert_refused(BadTidy, "number", 0, peeled, bundle, (one,))
                    self.assert_refused(BadTidy, "number", 1, peeled, bundle, ((), one, None))

    def test_no_tuple(self):
        for thing in odd_things() + odd_integers() + [0, 1, [(4,)], [()]]:
            self.assert_refused(BadTidy, "number", None, peeled, ABC, thing)
            self.assert_refused(BadTidy, "number", None, peeled, (7, ()), thing)

    def test_no_settings(self):
        for thing in odd_things() + odd_tuples() + odd_integers() + [0, 1, (5,), (-5,), (1, 5), [4]]:
            self.assert_refused(BadTidy, "number", 0, peeled, ABC, (thing,))
            self.assert_refused(BadTidy, "number", 0, peeled, ABC, (thing, (4,)))
            self.assert_refused(BadTidy, "number", 2, peeled, ABC, ((4,), (-3,), thing, None))
        # A SETTING by itself is a tuple of integers, not of SETTINGS.
        self.assert_refused(BadTidy, "number", 0, peeled, ABC, (4,))

    def test_bundle_first(self):
        for thing in ((), ((4,),), None, (None,), ((),) * 21, []):
            self.assert_needs_bundle(peeled, thing)


class NothingAtOdds(Case):
    def test_meeting_settings_are_tidy(self):
        for bundle in lean_bundles():
            for setting in whole_settings(bundle[0]):
                if all(does_meet(setting, row) for row in bundle[1]):
                    self.assertIn(setting, all_tidy(bundle))
                    self.assertEqual(struck_by(bundle, setting)[1], ())

    def test_each_sign_but_one(self):
        for number in range(16):
            bundle = without(SIGNS, number)
            self.assert_told((7, ()), peeled, bundle, (greatest_tidy(bundle),))


if __name__ == "__main__":
    unittest.main()
