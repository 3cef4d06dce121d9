"""The functions of idleclauses.settings: point [3]."""

import itertools
import unittest

from idleclauses.bundles import without
from idleclauses.errors import BadSetting
from idleclauses.settings import (
    is_at_odds, is_tidy, meeting_setting, met, need_setting, touched,
)
from tests.helper import (
    Case, all_rows, does_meet, does_touch, odd_integers, odd_things, odd_tuples, small_bundles,
    some_bundles, whole_settings,
)

ABC = (3, ((), (-2, 3), (1,), (1, -3), (1, 2, 3)))
FOUR = (4, ((-4,), (-2, 3), (1, 2), (1, 4)))
# All signs of the names 1 to 4, so at odds, but not without any one of them.
SIGNS = (7, tuple(sorted(itertools.product((1, -1), (2, -2), (3, -3), (4, -4)))))
# Each name leads to the next one, the last one to the contrary of the first one; some name is true.
RING = (7, tuple(sorted([(-k, k + 1) for k in range(1, 7)] + [(-1, -7), (1, 2, 3, 4, 5, 6, 7)])))


class NeedSetting(Case):
    def test_tells_the_very_thing(self):
        for names in range(1, 8):
            for setting in all_rows(names):
                self.assertIs(need_setting((names, ()), setting), setting)
                self.assertIs(need_setting((names, ((), (1,))), setting), setting)

    def test_wrong_things(self):
        for action in (need_setting, touched, met, is_tidy):
            for thing in odd_things() + odd_tuples() + odd_integers() + [0, 1]:
                self.assert_keeps_given(BadSetting, action, ABC, thing)
                self.assert_keeps_given(BadSetting, action, (3, ()), thing)

    def test_wrong_literals(self):
        for action in (need_setting, touched, met, is_tidy):
            for thing in odd_things() + odd_tuples() + odd_integers() + [0, 4, -4, ()]:
                self.assert_keeps_given(BadSetting, action, ABC, (thing,))
                self.assert_keeps_given(BadSetting, action, ABC, (-1, thing))

    def test_names_of_this_bundle(self):
        for action in (need_setting, touched, met, is_tidy):
            for names in range(1, 8):
                for setting in ((names + 1,), (-names - 1,), tuple(range(1, names + 2))):
                    self.assert_keeps_given(BadSetting, action, (names, ()), setting)

    def test_bundle_first(self):
        for action in (need_setting, touched, met, is_tidy):
            for thing in ((1,), (), None, (0,), []):
                self.assert_needs_bundle(action, thing)


class TouchedAndMet(Case):
    def test_ordinary(self):
        self.assert_told((1, 2), touched, FOUR, (2,))
        self.assert_told((2,), met, FOUR, (2,))
        self.assert_told((1, 2), touched, FOUR, (-2,))
        self.assert_told((1,), met, FOUR, (-2,))
        self.assert_told((0, 1, 3), touched, FOUR, (3, -4))
        self.assert_told((0, 1), met, FOUR, (3, -4))
        self.assert_told((0, 1, 2, 3), touched, FOUR, (1, 2, 3, -4))
        self.assert_told((0, 1, 2, 3), met, FOUR, (1, 2, 3, -4))
        self.assert_told((0, 3), touched, FOUR, (-4,))

    def test_the_empty_clause_is_neither(self):
        self.assert_told((1, 2, 3, 4), touched, ABC, (1, 2, 3))
        self.assert_told((1, 2, 3, 4), met, ABC, (1, 2, 3))
        self.assert_told((), touched, (1, ((),)), (1,))
        self.assert_told((), met, (1, ((),)), (1,))

    def test_the_empty_setting_does_neither(self):
        for bundle in (ABC, FOUR, SIGNS, (1, ()), (7, ((),))):
            self.assert_told((), touched, bundle, ())
            self.assert_told((), met, bundle, ())

    def test_no_clauses(self):
        for names in range(1, 8):
            for setting in ((), (1,), (-names,), tuple(range(1, names + 1))):
                self.assert_told((), touched, (names, ()), setting)
                self.assert_told((), met, (names, ()), setting)

    def test_sixteen_clauses(self):
        self.assert_told(tuple(range(16)), touched, SIGNS, (4,))
        self.assert_told((1, 3, 5, 7, 9, 11, 13, 15), met, SIGNS, (4,))
        self.assert_told((), touched, SIGNS, (5, -6, 7))
        self.assert_told(tuple(range(1, 16)), met, SIGNS, (1, 2, 3, 4, 5, 6, 7))

    def test_all_settings_of_many_bundles(self):
        for bundle in small_bundles() + some_bundles(25):
            for setting in all_rows(bundle[0]):
                numbered = list(enumerate(bundle[1]))
                wanted = tuple(k for k, row in numbered if does_touch(setting, row))
                self.assertEqual(touched(bundle, setting), wanted)
                wanted = tuple(k for k, row in numbered if does_meet(setting, row))
                self.assertEqual(met(bundle, setting), wanted)


class IsTidy(Case):
    def test_ordinary(self):
        for setting in ((), (1,), (3,), (1, 3), (1, -2), (2, 3), (1, -4), (1, 2, 3, -4)):
            self.assert_told(True, is_tidy, FOUR, setting)
        for setting in ((2,), (-2,), (-3,), (4,), (-1,), (-4,), (-2, 3), (1, 2), (-1, 2, 3, 4)):
            self.assert_told(False, is_tidy, FOUR, setting)

    def test_nothing_touched(self):
        self.assert_told(True, is_tidy, FOUR, ())
        self.assert_told(True, is_tidy, (1, ((),)), (1,))
        self.assert_told(True, is_tidy, SIGNS, (5, -7))
        self.assert_told(True, is_tidy, (7, ()), (1, 2, 3, 4, 5, 6, 7))

    def test_at_odds_and_tidy(self):
        bundle = (3, ((-2,), (1, 2), (2,), (3,)))
        self.assert_told(True, is_tidy, bundle, (1,))
        self.assert_told(True, is_tidy, bundle, (1, 3))
        self.assert_told(False, is_tidy, bundle, (1, 2))
        self.assert_told(False, is_tidy, bundle, (1, -2, 3))

    def test_all_settings_of_many_bundles(self):
        for bundle in small_bundles() + some_bundles(25):
            for setting in all_rows(bundle[0]):
                wanted = all(does_meet(setting, row) or not does_touch(setting, row)
                             for row in bundle[1])
                self.assertIs(is_tidy(bundle, setting), wanted)


class MeetingSetting(Case):
    def check(self, bundle):
        names, clauses = bundle
        wanted = any(all(does_meet(setting, row) for row in clauses)
                     for setting in whole_settings(names))
        found = meeting_setting(bundle)
        self.assertIs(is_at_odds(bundle), not wanted)
        self.assertEqual(found is not None, wanted)
        if wanted:
            self.assertIs(need_setting(bundle, found), found)
            self.assertEqual(len(found), names)
            self.assertTrue(all(does_meet(found, row) for row in clauses))
        self.assertEqual(repr(meeting_setting(bundle)), repr(found))

    def test_many_bundles(self):
        for bundle in small_bundles() + some_bundles(200):
            self.check(bundle)

    def test_just_one_setting(self):
        for names in range(1, 8):
            for setting in whole_settings(names):
                bundle = (names, tuple(sorted((k,) for k in setting)))
                self.assert_told(setting, meeting_setting, bundle)
                self.assert_told(False, is_at_odds, bundle)

    def test_no_clauses(self):
        for names in range(1, 8):
            self.check((names, ()))
            self.assert_told(False, is_at_odds, (names, ()))

    def test_the_empty_clause(self):
        for names in range(1, 8):
            for clauses in (((),), ((), (1,)), ((), (-names,))):
                self.assert_told(None, meeting_setting, (names, clauses))
                self.assert_told(True, is_at_odds, (names, clauses))

    def test_a_name_and_its_contrary(self):
        for name in range(1, 8):
            bundle = (7, ((-name,), (name,)))
            self.assert_told(None, meeting_setting, bundle)
            self.assert_told(True, is_at_odds, bundle)

    def test_sixteen_clauses(self):
        self.assert_told(None, meeting_setting, SIGNS)
        self.assert_told(True, is_at_odds, SIGNS)
        for number in range(16):
            bundle = without(SIGNS, number)
            self.check(bundle)
            self.assert_told(False, is_at_odds, bundle)
            missed = tuple(-k for k in SIGNS[1][number])
            self.assertEqual(meeting_setting(bundle)[:4], missed)

    def test_a_ring_of_seven(self):
        self.check(RING)
        self.assert_told((-1, -2, -3, -4, -5, -6, 7), meeting_setting,
                         (7, tuple(sorted(RING[1] + tuple((-k,) for k in range(1, 7))))))
        self.assert_told(True, is_at_odds, (7, tuple(sorted(RING[1] + ((1,),)))))

    def test_bundle_needed(self):
        self.assert_needs_bundle(meeting_setting)
        self.assert_needs_bundle(is_at_odds)


if __name__ == "__main__":
    unittest.main()
