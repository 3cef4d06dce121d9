"""The functions of idleclauses.leastlots: points [21] and [23]."""

import random
import unittest
from unittest import mock

from idleclauses import leastlots
from idleclauses.chains import clauses_of, refutation, uses
from idleclauses.errors import BadNumbers, BadPaper, TooMany
from idleclauses.kernels import kernel
from idleclauses.leastlots import (
    check_least, first_least, is_least_lot, least_lots, least_mores, least_paper,
)
from tests.helper import Case, named_bundles, odd_integers, odd_things, odd_tuples
from tests.opinions import changed, is_refuted_by, uses_of
from tests.opinions_lots import (
    MANY, bundles, fewer_bundles, first_of, is_least, least_verdict, lots_of, odds_of,
)
from tests.opinions_names import all_numbers, more
from tests.test_matchings import wrong_numbers

SQUARE = (2, ((-1, -2), (-1, 2), (1, -2), (1, 2)))
ABC = (4, ((-2, -3), (-1,), (-1, 2), (1,), (1, -2), (3, 4)))
CHAIN = (("clause", 3), ("clause", 1), ("by", 0, 1, 1))
LEAST = ("least", CHAIN, ((1,), (-1,)))
SPARE = ("spare", 2, CHAIN)
MET = ("met", (1, -2))
SIGNS = named_bundles()[8]
ODD = odd_things() + odd_tuples() + odd_integers() + [0, 1, ()]


class Bundles(Case):
    def test_there_are_all_sorts(self):
        found = [lots_of(bundle) for bundle in bundles()]
        self.assertGreater(len([1 for lots in found if not lots]), 100)
        self.assertGreater(len([1 for lots in found if len(lots) == 1]), 50)
        self.assertGreater(len([1 for lots in found if len(lots) > 5]), 30)
        mores = [more(bundle, lot) for bundle in bundles() for lot in lots_of(bundle)]
        self.assertGreater(mores.count(1), 200)
        self.assertGreater(len(mores) - mores.count(1), 50)
        self.assertEqual(len(lots_of(MANY)), 279)


class IsLeastLot(Case):
    def test_ordinary(self):
        self.assert_told(True, is_least_lot, ABC, (1, 3))
        self.assert_told(True, is_least_lot, SQUARE, (0, 1, 2, 3))
        self.assert_told(False, is_least_lot, ABC, (1,))
        self.assert_told(False, is_least_lot, ABC, (1, 2, 3))
        self.assert_told(False, is_least_lot, ABC, (0, 1, 2, 3, 4, 5))
        self.assert_told(False, is_least_lot, SQUARE, (0, 1, 2))
        self.assert_told(True, is_least_lot, SIGNS, tuple(range(16)))

    def test_all_numbers(self):
        for bundle in bundles():
            if len(bundle[1]) < 8:
                for numbers in all_numbers(bundle):
                    self.assertIs(is_least_lot(bundle, numbers), is_least(bundle, numbers))

    def test_each_least_lot(self):
        for bundle in bundles():
            for numbers in lots_of(bundle)[:20]:
                self.assert_told(True, is_least_lot, bundle, numbers)
                self.assert_told(False, is_least_lot, bundle, numbers[1:])
                self.assert_told(False, is_least_lot, bundle, numbers[:-1])

    def test_no_numbers_and_the_empty_clause(self):
        for bundle in bundles():
            self.assert_told(False, is_least_lot, bundle, ())
        for names in range(1, 8):
            bundle = (names, ((), (-names,), (names,)))
            self.assert_told(True, is_least_lot, bundle, (0,))
            self.assert_told(True, is_least_lot, bundle, (1, 2))
            self.assert_told(False, is_least_lot, bundle, (0, 1))
            self.assert_told(False, is_least_lot, bundle, (0, 1, 2))

    def test_wrong_numbers(self):
        for action, rest in ((is_least_lot, ()), (least_paper, ()), (check_least, (LEAST,)),
                             (check_least, (None,))):
            for bundle in (SQUARE, ABC, (1, ()), (7, ((),))):
                for thing in wrong_numbers(bundle):
                    self.assert_keeps_given(BadNumbers, action, bundle, thing, *rest)

    def test_bundle_first(self):
        for thing in ((), (0,), None, (99,)):
            self.assert_needs_bundle(is_least_lot, thing)
            self.assert_needs_bundle(least_paper, thing)
            self.assert_needs_bundle(check_least, thing, LEAST)
            self.assert_needs_bundle(check_least, thing, None)


class FirstLeast(Case):
    def test_ordinary(self):
        self.assert_told((1, 3), first_least, ABC)
        self.assert_told((0, 1, 2, 3), first_least, SQUARE)
        self.assert_told((0,), first_least, (1, ((), (-1,), (1,))))
        # Each later CLAUSE is left out where the others are enough.
        self.assert_told((0, 1, 2), first_least, (2, ((-2,), (-1, 2), (1,), (2,))))

    def test_by_all_lots(self):
        for bundle in bundles():
            self.assert_told(first_of(bundle), first_least, bundle)

    def test_it_is_a_least_lot(self):
        for bundle in bundles() + [MANY]:
            found = first_least(bundle)
            self.assertEqual(found is None, not lots_of(bundle))
            self.assertTrue(found is None or found in lots_of(bundle))

    def test_not_at_odds(self):
        for names in range(1, 8):
            for clauses in ((), ((names,),), ((-names,),)):
                self.assert_told(None, first_least, (names, clauses))

    def test_bundle_needed(self):
        self.assert_needs_bundle(first_least)


class LeastLots(Case):
    def test_ordinary(self):
        self.assert_told(((0, 1),), least_lots, (1, ((-1,), (1,))))
        self.assert_told(((1, 3),), least_lots, ABC)
        self.assert_told(((0, 1, 2, 3),), least_lots, SQUARE)
        self.assert_told(((0,), (1, 2)), least_lots, (1, ((), (-1,), (1,))))
        self.assert_told(((0, 1, 2), (0, 3)), least_lots, (2, ((-2,), (-1, 2), (1,), (2,))))
        self.assert_told((tuple(range(16)),), least_lots, SIGNS)

    def test_by_all_lots(self):
        for bundle in bundles() + [MANY]:
            self.assert_told(lots_of(bundle), least_lots, bundle)

    def test_not_at_odds(self):
        for names in range(1, 8):
            for clauses in ((), ((names,),), ((-names,),)):
                self.assert_told((), least_lots, (names, clauses))

    def test_all_numbers_are_in_the_kernel(self):
        for bundle in bundles():
            found = {number for lot in least_lots(bundle) for number in lot}
            self.assertLessEqual(found, set(kernel(bundle)))

    def test_too_many(self):
        self.assertEqual(leastlots.MOST_LOTS, 300)
        # No search came to a BUNDLE with more than 300, so a lesser number has to do.
        for most, bundle in ((279, MANY), (2, (1, ((), (-1,), (1,)))), (1, SQUARE), (0, (1, ()))):
            wanted = lots_of(bundle)
            mores = [more(bundle, lot) for lot in wanted]
            with mock.patch.object(leastlots, "MOST_LOTS", most):
                self.assert_told(wanted, least_lots, bundle)
                self.assert_told((min(mores), max(mores)) if mores else None, least_mores, bundle)
            if most > 0:
                with mock.patch.object(leastlots, "MOST_LOTS", most - 1):
                    for action in (least_lots, least_mores):
                        self.assert_refused(TooMany, "most", most - 1, action, bundle)

    def test_bundle_needed(self):
        self.assert_needs_bundle(least_lots)
        self.assert_needs_bundle(least_mores)


class LeastPaper(Case):
    def test_each_paper_is_taken(self):
        chance = random.Random(12)
        words = []
        for bundle in bundles():
            found = all_numbers(bundle)
            some = chance.sample(found, min(len(found), 6)) + list(lots_of(bundle)[:4])
            for numbers in some + [(), tuple(range(len(bundle[1])))]:
                paper = self.assert_same_again(least_paper, bundle, numbers)
                word = "met"
                if odds_of(bundle)[sum(1 << k for k in numbers)]:
                    word = "least" if is_least(bundle, numbers) else "spare"
                self.assertEqual(least_verdict(bundle, numbers, paper), ("told", word), (bundle, numbers))
                self.assert_told(word, check_least, bundle, numbers, paper)
                words.append(word)
        for word in ("least", "met", "spare"):
            self.assertGreater(words.count(word), 100, word)

    def test_the_chain_uses_none_but_these(self):
        for bundle in bundles():
            for numbers in lots_of(bundle)[:4]:
                _, chain, settings = least_paper(bundle, numbers)
                self.assertTrue(is_refuted_by(bundle, chain))
                self.assertEqual(uses_of(chain), set(numbers))
                self.assertEqual(uses(bundle, chain), numbers)
                self.assertEqual(clauses_of(bundle, chain)[-1], ())
                self.assertEqual(len(settings), len(numbers))

    def test_no_numbers(self):
        for bundle in bundles()[::5]:
            word, setting = least_paper(bundle, ())
            self.assertEqual(word, "met")
            self.assert_told("met", check_least, bundle, (), ("met", setting))
            self.assert_told("met", check_least, bundle, (), ("met", ()))

    def test_the_empty_clause(self):
        bundle = (1, ((), (-1,), (1,)))
        self.assertEqual(least_paper(bundle, (0,))[:2], ("least", (("clause", 0),)))
        self.assertEqual(least_paper(bundle, (0, 1))[:2], ("spare", 1))
        self.assertEqual(least_paper(bundle, (0, 1, 2))[0], "spare")


class CheckLeast(Case):
    def test_ordinary(self):
        self.assert_told("least", check_least, ABC, (1, 3), LEAST)
        self.assert_told("spare", check_least, ABC, (1, 2, 3), SPARE)
        self.assert_told("met", check_least, ABC, (3, 5), ("met", (1, 4)))
        self.assert_told("met", check_least, ABC, (3,), ("met", (1,)))
        self.assert_told("least", check_least, ABC, (1, 3), ("least", CHAIN, ((1, -2), (-1, 2, 3, 4))))

    def test_the_wrong_numbers_for_a_paper(self):
        self.assert_refused(BadPaper, "part", "least", check_least, ABC, (1, 2, 3), LEAST)
        self.assert_refused(BadPaper, "part", "least", check_least, ABC, (1,), LEAST)
        self.assert_refused(BadPaper, "part", "least", check_least, ABC, (), LEAST)
        self.assert_refused(BadPaper, "part", "spare", check_least, ABC, (1, 3), SPARE)
        self.assert_refused(BadPaper, "part", "spare", check_least, ABC, (1, 2), SPARE)
        self.assert_refused(BadPaper, "part", "spare", check_least, ABC, (1, 2, 3), ("spare", 1, CHAIN))
        self.assert_refused(BadPaper, "part", "spare", check_least, ABC, (1, 2, 3), ("spare", 4, CHAIN))
        self.assert_refused(BadPaper, "part", "met", check_least, ABC, (1, 3), ("met", (1,)))

    def test_settings_in_turn(self):
        for settings in (((-1,), (1,)), ((1,),), ((1,), (-1,), (1,)), (), ((), (-1,)), ((1,), ()),
                         [(1,), (-1,)], None, ((1,), None), ((1,), (True,)), ((5,), (-1,)), ((1,), (-5,))):
            self.assert_refused(BadPaper, "part", "least", check_least, ABC, (1, 3),
                                ("least", CHAIN, settings))

    def test_steps_that_are_not_used(self):
        longer = (("clause", 4), *CHAIN[:2], ("by", 1, 2, 1))
        self.assert_told("least", check_least, ABC, (1, 3), ("least", longer, LEAST[2]))
        self.assert_told("spare", check_least, ABC, (1, 2, 3), ("spare", 2, longer))
        spare_one = (("clause", 2), *CHAIN[:2], ("by", 1, 2, 1))
        self.assert_told("spare", check_least, ABC, (1, 2, 3), ("spare", 2, spare_one))
        wrong = (("clause", 6), ("by", 0, 0, 1), ("clause", -1), ("clause",), None, ("by", 9, 0, 1))
        for step in wrong:
            for chain in ((step, *CHAIN[:2], ("by", 1, 2, 1)), (*CHAIN[:2], step, ("by", 0, 1, 1))):
                self.assert_refused(BadPaper, "part", "least", check_least, ABC, (1, 3),
                                    ("least", chain, LEAST[2]))
                self.assert_refused(BadPaper, "part", "spare", check_least, ABC, (1, 2, 3),
                                    ("spare", 2, chain))

    def test_2000_steps_but_not_2001(self):
        long = CHAIN[:2] + (("by", 0, 1, 1),) * 1998
        self.assert_told("least", check_least, ABC, (1, 3), ("least", long, LEAST[2]))
        self.assert_told("spare", check_least, ABC, (1, 2, 3), ("spare", 2, long))
        longer = long + long[-1:]
        self.assert_refused(BadPaper, "part", "least", check_least, ABC, (1, 3), ("least", longer, LEAST[2]))
        self.assert_refused(BadPaper, "part", "spare", check_least, ABC, (1, 2, 3), ("spare", 2, longer))

    def test_form(self):
        wrong = ODD + [
            ("least",), ("least", CHAIN), (*LEAST, ()), list(LEAST), ("spare", 2), (*SPARE, ()), ("met",),
            ("met", (1,), ()), ("Least", CHAIN, ()), ("", ()), (True, (1,)), (None, CHAIN, ()), (b"met", (1,)),
            (("met",), (1,)), (["met"], (1,)), ("used", CHAIN), ("tidy", (1,)), ("count", CHAIN, ()), (LEAST,),
            (LEAST, SPARE), CHAIN, CHAIN[0], ("met least", ()), ("form", 1), ("met", (1, -2), None),
        ]
        wrong += [(word, (1,)) for word in ODD] + [(word, CHAIN, ()) for word in ODD]
        for thing in wrong:
            for numbers in ((1, 3), (), (1, 2, 3)):
                self.assert_refused(BadPaper, "part", "form", check_least, ABC, numbers, thing)

    def test_each_wrong_thing_behind_a_word(self):
        for thing in odd_things() + odd_tuples() + odd_integers() + [0, (5,), (-5,), 5]:
            for numbers in ((), (1, 2, 3)):
                self.assert_refused(BadPaper, "part", "met", check_least, ABC, numbers, ("met", thing))
            for paper in ((thing, LEAST[2]), (CHAIN, thing), (CHAIN, (thing, (-1,))), (thing, thing)):
                self.assert_refused(BadPaper, "part", "least", check_least, ABC, (1, 3), ("least", *paper))
            for paper in ((thing, CHAIN), (2, thing), (thing, thing)):
                self.assert_refused(BadPaper, "part", "spare", check_least, ABC, (1, 2, 3), ("spare", *paper))

    def test_something_otherwise_at_any_place(self):
        papers = [(ABC, (1, 3), LEAST), (ABC, (1, 2, 3), SPARE), (ABC, (3,), ("met", (1, 4)))]
        for bundle in fewer_bundles()[-12:]:
            papers += [(bundle, lot, None) for lot in lots_of(bundle)[:1]]
            papers.append((bundle, tuple(range(len(bundle[1]))), None))
        for bundle, numbers, paper in papers:
            for thing in changed(paper or least_paper(bundle, numbers)):
                self.assert_verdict(least_verdict(bundle, numbers, thing), check_least, bundle, numbers,
                                    thing)

    def test_papers_of_other_lots_and_bundles(self):
        some = fewer_bundles()
        papers = [least_paper(b, lot) for b in some[::2] for lot in [*lots_of(b)[:2], ()]]
        papers += [("spare", k, refutation(b)) for b in some[::3] for k in range(3)]
        for bundle in some[::3]:
            for numbers in [*lots_of(bundle)[:2], tuple(range(len(bundle[1])))]:
                for paper in papers:
                    verdict = least_verdict(bundle, numbers, paper)
                    self.assert_verdict(verdict, check_least, bundle, numbers, paper)
                    if verdict == ("told", "least"):
                        self.assertTrue(is_least(bundle, numbers))


class LeastMores(Case):
    def test_ordinary(self):
        self.assert_told((1, 1), least_mores, ABC)
        self.assert_told((2, 2), least_mores, SQUARE)
        self.assert_told((12, 12), least_mores, SIGNS)
        self.assert_told((1, 2), least_mores, (3, tuple(sorted(SQUARE[1] + ((-3,), (3,))))))
        self.assert_told((1, 1), least_mores, (7, ((),)))

    def test_by_all_lots(self):
        for bundle in bundles():
            mores = [more(bundle, lot) for lot in lots_of(bundle)]
            self.assert_told((min(mores), max(mores)) if mores else None, least_mores, bundle)
            self.assertTrue(all(k >= 1 for k in mores))

    def test_not_at_odds(self):
        for names in range(1, 8):
            for clauses in ((), ((names,),), ((-names,),)):
                self.assert_told(None, least_mores, (names, clauses))


if __name__ == "__main__":
    unittest.main()
