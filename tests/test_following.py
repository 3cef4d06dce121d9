"""The functions of idleclauses.following: points [14], [15] and [16]."""

import unittest

from idleclauses.errors import BadLot, BadPaper, BadSetting, Unweighed
from idleclauses.following import answer_paper, check_answer, followed, least_setting
from idleclauses.settings import need_setting
from tests.helper import (
    Case, all_lots, all_rows, named_bundles, odd_integers, odd_things, odd_tuples, whole_settings,
)
from tests.opinions import changed, how_many_up, is_lot_of, plain_readings
from tests.opinions_names import (
    answer_verdict, answers, bundles, do_clash, falls_by, fewer_bundles, follow, halves_of,
)

SQUARE = (2, ((-1, -2), (-1, 2), (1, -2), (1, 2)))
CUBE = (3, tuple((a, b, c) for a in (-1, 1) for b in (-2, 2) for c in (-3, 3)))
RULES = (4, ((-3, 4), (-2, -3, -4), (-1, -2, 3), (1,)))
ROW = (7, tuple(sorted([(-k, k + 1) for k in range(1, 7)])))
UNITS = (3, ((-3,), (-2, 3), (-1, 2), (1,)))
ODD = odd_things() + odd_tuples() + odd_integers()


class Bundles(Case):
    def test_there_are_all_sorts(self):
        weighed = [bundle for bundle in bundles() if halves_of(bundle)]
        at_odds = [bundle for bundle in weighed if not answers(bundle)]
        self.assertGreater(len(weighed) - len(at_odds), 60)
        self.assertGreater(len([bundle for bundle in at_odds if falls_by(bundle, 0)]), 60)
        self.assertGreater(len([bundle for bundle in at_odds if not falls_by(bundle, 0)]), 20)


class Followed(Case):
    def test_ordinary(self):
        self.assert_told((1,), followed, RULES, ())
        self.assert_told((1, 2, 3, 4), followed, (4, RULES[1][:1] + RULES[1][2:]), (2,))
        self.assert_told(None, followed, RULES, (2,))
        self.assert_told((1, -2), followed, RULES, (-2,))
        self.assert_told((1, -2, 3, 4), followed, RULES, (3,))
        self.assert_told(None, followed, UNITS, ())
        self.assert_told((), followed, SQUARE, ())
        for literal in (1, -1, 2, -2):
            self.assert_told(None, followed, SQUARE, (literal,))

    def test_from_both_ends(self):
        self.assert_told((1, 2, 3, 4, 5, 6, 7), followed, ROW, (1,))
        self.assert_told((-1, -2, -3, -4, -5, -6, -7), followed, ROW, (-7,))
        self.assert_told((4, 5, 6, 7), followed, ROW, (4,))
        self.assert_told((-1, -2, -3, -4), followed, ROW, (-4,))
        self.assert_told((-1, -2, -3, 5, 6, 7), followed, ROW, (-3, 5))
        self.assert_told(None, followed, ROW, (2, -5))

    def test_all_settings(self):
        for bundle in fewer_bundles():
            for setting in all_rows(bundle[0])[::1 + bundle[0] ** 2 // 4]:
                wanted = follow(bundle, setting)
                self.assertEqual(wanted, follow(bundle, setting, True))
                found = followed(bundle, setting)
                self.assertEqual(found, wanted, (bundle, setting))
                if found is not None:
                    self.assertIs(need_setting(bundle, found), found)

    def test_of_nothing(self):
        for bundle in bundles():
            self.assert_told(follow(bundle, ()), followed, bundle, ())

    def test_whole_settings(self):
        for bundle in fewer_bundles():
            for setting in whole_settings(bundle[0]):
                wanted = setting if setting in answers(bundle) else None
                self.assertEqual(followed(bundle, setting), wanted)

    def test_the_empty_clause_always_falls(self):
        for names in range(1, 8):
            for setting in ((), (1,), (-names,), tuple(range(1, names + 1))):
                self.assert_told(None, followed, (names, ((),)), setting)
                self.assert_told(None, followed, (names, ((), (-names,))), setting)

    def test_no_clauses(self):
        for names in range(1, 8):
            for setting in ((), (1,), (-names,), tuple(range(1, names + 1))):
                self.assert_told(setting, followed, (names, ()), setting)

    def test_wrong_settings(self):
        for thing in ODD + [0, 1, (5,), (-5,), (1, 5), [1], (1, 1)]:
            self.assert_keeps_given(BadSetting, followed, RULES, thing)
            self.assert_keeps_given(BadSetting, followed, (4, ()), thing)
            self.assert_keeps_given(BadSetting, followed, (4, ((),)), thing)

    def test_bundle_first(self):
        for thing in ((), (1,), None, (0,)):
            self.assert_needs_bundle(followed, thing)


class AnswerPaper(Case):
    def test_each_paper_is_taken(self):
        for bundle in bundles():
            if halves_of(bundle):
                paper = self.assert_same_again(answer_paper, bundle)
                word = "met" if answers(bundle) else "falls"
                self.assertEqual(answer_verdict(bundle, paper), ("told", word), bundle)
                self.assert_told(word, check_answer, bundle, paper)

    def test_without_halves(self):
        many = 0
        for bundle in bundles():
            if not halves_of(bundle):
                many += 1
                found = []
                for _ in range(2):
                    with self.assertRaises(Unweighed) as caught:
                        answer_paper(bundle)
                    self.assertEqual(list(vars(caught.exception)), ["hefts"])
                    found.append(caught.exception.hefts)
                self.assertTrue(do_clash(bundle, found[0]), bundle)
                self.assertEqual(found[0], found[1])
        self.assertGreater(many, 90)

    def test_a_name_that_falls_either_way(self):
        self.assert_told(("falls", 1), answer_paper, SQUARE)
        bundle = (7, ((-6, -7), (-6, 7), (6, -7), (6, 7)))
        word, number = answer_paper(bundle)
        self.assertEqual(word, "falls")
        self.assertIn(number, (6, 7))

    def test_no_clauses_and_the_empty_one(self):
        for names in range(1, 8):
            word, setting = answer_paper((names, ()))
            self.assertEqual((word, len(setting)), ("met", names))
            self.assertEqual(answer_verdict((names, ((),)), answer_paper((names, ((),)))), ("told", "falls"))
            self.assert_told("falls", check_answer, (names, ((),)), ("falls", 0))

    def test_bundle_needed(self):
        self.assert_needs_bundle(answer_paper)
        for thing in (("falls", 0), None, ()):
            self.assert_needs_bundle(check_answer, thing)


class CheckAnswer(Case):
    def test_ordinary(self):
        self.assert_told("falls", check_answer, SQUARE, ("falls", 1))
        self.assert_told("falls", check_answer, SQUARE, ("falls", 2))
        self.assert_refused(BadPaper, "part", "falls", check_answer, SQUARE, ("falls", 0))
        self.assert_refused(BadPaper, "part", "falls", check_answer, SQUARE, ("falls", 3))
        self.assert_told("falls", check_answer, UNITS, ("falls", 0))
        # Where () falls, each SETTING does.
        self.assert_told("falls", check_answer, UNITS, ("falls", 3))
        self.assert_told("met", check_answer, RULES, ("met", (1, -2, -3, -4)))
        self.assert_refused(BadPaper, "part", "met", check_answer, RULES, ("met", (1, 2, -3, -4)))
        self.assert_refused(BadPaper, "part", "falls", check_answer, RULES, ("falls", 1))

    def test_whole_settings_alone(self):
        for names in range(2, 8):
            bundle = (names, ((1,),))
            for setting in all_rows(names)[:: 1 + names * 4]:
                wanted = len(setting) == names and 1 in setting
                verdict = ("told", "met") if wanted else ("part", "met")
                self.assert_verdict(verdict, check_answer, bundle, ("met", setting))

    def test_of_bundles_without_halves_too(self):
        told = []
        for bundle in bundles():
            if not halves_of(bundle):
                for setting in whole_settings(bundle[0])[::7] + list(answers(bundle)[:2]):
                    verdict = answer_verdict(bundle, ("met", setting))
                    self.assert_verdict(verdict, check_answer, bundle, ("met", setting))
                    told.append(verdict)
                for number in range(bundle[0] + 1):
                    verdict = answer_verdict(bundle, ("falls", number))
                    self.assert_verdict(verdict, check_answer, bundle, ("falls", number))
                    told.append(verdict)
        self.assertGreater(told.count(("told", "met")), 20)
        self.assertGreater(told.count(("told", "falls")), 20)

    def test_no_name_falls_in_a_cube(self):
        for number in range(4):
            self.assert_refused(BadPaper, "part", "falls", check_answer, CUBE, ("falls", number))
        for setting in whole_settings(3):
            self.assert_refused(BadPaper, "part", "met", check_answer, CUBE, ("met", setting))

    def test_each_number_and_setting(self):
        for bundle in fewer_bundles():
            for number in range(-2, 10):
                paper = ("falls", number)
                self.assert_verdict(answer_verdict(bundle, paper), check_answer, bundle, paper)
            for setting in whole_settings(bundle[0])[::3]:
                paper = ("met", setting)
                self.assert_verdict(answer_verdict(bundle, paper), check_answer, bundle, paper)

    def test_form(self):
        wrong = ODD + [
            0, (), ("met",), ("falls",), ("falls", 0, 0), ["falls", 0], ("Falls", 0), ("", 0), (True, 0),
            (("falls",), 0), (b"falls", 0), ("used", ()), ("tidy", (1,)), ("met falls", 0), (0, "falls"),
            (("falls", 0), ("falls", 0)),
        ]
        wrong += [(word, 0) for word in ODD]
        for thing in wrong:
            for bundle in (SQUARE, CUBE, UNITS, (4, ())):
                self.assert_refused(BadPaper, "part", "form", check_answer, bundle, thing)

    def test_each_wrong_thing_behind_a_word(self):
        for thing in ODD + [-1, 3, (1,), (0,), [], (1, 2, 3), -2, "0"]:
            for bundle in (SQUARE, (2, ((-1,), (1,))), (2, ((),))):
                self.assert_refused(BadPaper, "part", "falls", check_answer, bundle, ("falls", thing))
            for bundle in (SQUARE, (2, ()), (2, ((1,),))):
                self.assert_refused(BadPaper, "part", "met", check_answer, bundle, ("met", thing))
        for thing in (0, 1, 2, ()):
            self.assert_refused(BadPaper, "part", "met", check_answer, (2, ()), ("met", thing))
            self.assert_refused(BadPaper, "part", "falls", check_answer, (2, ()), ("falls", thing))

    def test_something_otherwise_at_any_place(self):
        papers = [(SQUARE, ("falls", 1)), (UNITS, ("falls", 0)), (RULES, ("met", (1, -2, -3, -4)))]
        papers += [(b, answer_paper(b)) for b in bundles() if halves_of(b)][-40:]
        for bundle, paper in papers:
            for thing in changed(paper):
                self.assert_verdict(answer_verdict(bundle, thing), check_answer, bundle, thing)


class LeastSetting(Case):
    def test_ordinary(self):
        self.assert_told((1, -2, -3, -4), least_setting, RULES, ())
        self.assert_told((1, 2, 3), least_setting, (3, ((1, 2), (1, 3), (2, 3))), (1, 2, 3))
        self.assert_told((-1, 2, 3), least_setting, (3, ((1, 2), (1, 3), (2, 3))), (2, 3))
        self.assert_told(None, least_setting, UNITS, ())

    def test_the_least_one(self):
        many = 0
        for bundle in bundles():
            for lot in plain_readings(bundle)[:12]:
                many += 1
                found = self.assert_same_again(least_setting, bundle, lot)
                self.assertEqual(found is None, not answers(bundle), bundle)
                if found is not None:
                    self.assertIn(found, answers(bundle))
                    ups = {k for k in found if how_many_up(lot, (k,))}
                    self.assertTrue(all(ups <= set(row) for row in answers(bundle)))
        self.assertGreater(many, 1000)

    def test_no_clauses_and_the_empty_one(self):
        for names in range(1, 8):
            for lot in all_lots(names):
                wanted = tuple(k if k in lot else -k for k in range(1, names + 1))
                self.assert_told(wanted, least_setting, (names, ()), lot)
                self.assert_told(None, least_setting, (names, ((),)), lot)

    def test_readings_that_are_not_plain(self):
        for bundle in bundles()[::2]:
            wanted = plain_readings(bundle)
            for lot in all_lots(bundle[0])[::3]:
                if lot not in wanted:
                    self.assert_keeps_given(BadLot, least_setting, bundle, lot)

    def test_no_readings(self):
        for thing in ODD + [0, 1, (-1,), (5,), (-3, -2), [1], (2, 1)]:
            self.assertFalse(is_lot_of(4, thing))
            for bundle in (RULES, (4, ()), (4, ((),))):
                self.assert_keeps_given(BadLot, least_setting, bundle, thing)
        self.assert_keeps_given(BadLot, least_setting, named_bundles()[8], (8,))

    def test_bundle_first(self):
        for thing in ((), (1,), None, (0,)):
            self.assert_needs_bundle(least_setting, thing)


if __name__ == "__main__":
    unittest.main()
