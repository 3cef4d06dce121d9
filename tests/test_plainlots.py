"""The functions of idleclauses.plainlots: point [22]."""

import itertools
import random
import unittest
from unittest import mock

from idleclauses import leastlots
from idleclauses.errors import BadNumber, BadNumbers, TooMany
from idleclauses.plainlots import does_end_well, plain_lots, plain_row, put
from tests.helper import AGREEING, Case, named_bundles, odd_integers, odd_things, odd_tuples
from tests.opinions import changed, names_in
from tests.opinions_lots import (
    MANY, bundles, fewer_bundles, is_least, lots_of, picked, plain_bundles, put_by, rows_that_end_well,
)
from tests.opinions_names import all_numbers, more
from tests.test_matchings import wrong_numbers

SQUARE = (2, ((-1, -2), (-1, 2), (1, -2), (1, 2)))
ABC = (4, ((-2, -3), (-1,), (-1, 2), (1,), (1, -2), (3, 4)))
THREE = (3, ((-3,), (-2, 3), (-1, 2), (1, 2)))
SIGNS = named_bundles()[8]
ODD = odd_things() + odd_tuples() + odd_integers()


def some_numbers(chance, bundle):
    """Some NUMBERS of a BUNDLE: all, none, LEAST LOTS, and others."""
    found = all_numbers(bundle)
    return [(), found[-1], *lots_of(bundle)[:6]] + chance.sample(found, min(len(found), 6))


class Put(Case):
    def test_ordinary(self):
        self.assert_told(((-3,), (-2, 3), (2,)), put, THREE, (0, 1, 2, 3), 1)
        self.assert_told(((-2,), (-1, 2), (1, 2)), put, THREE, (0, 1, 2, 3), 3)
        self.assert_refused(BadNumber, "given", 2, put, THREE, (0, 1, 2, 3), 2)
        self.assert_told(((-3,), (-1, 3)), put, THREE, (0, 1, 2), 2)
        self.assert_told(((),), put, ABC, (1, 3), 1)

    def test_what_can_not_be_done(self):
        # Other LITERALS are contrary; a CLAUSE has the name a third time; one sign alone; no name.
        for bundle, numbers, name in (
                (SQUARE, (0, 3), 1), (SQUARE, (1, 2), 2), (SQUARE, (0, 1, 2, 3), 1), (ABC, (1, 2, 3), 1),
                (ABC, (1, 2), 1), (ABC, (3, 4), 1), (ABC, (1, 3), 2), (ABC, (1, 3), 5), (ABC, (), 1),
                (ABC, (1,), 1), (ABC, (0,), 2)):
            self.assert_refused(BadNumber, "given", name, put, bundle, numbers, name)

    def test_a_clause_that_is_among_them(self):
        bundle = (3, ((-1, 2), (1, 3), (2, 3)))
        self.assert_refused(BadNumber, "given", 1, put, bundle, (0, 1, 2), 1)
        self.assert_told(((2, 3),), put, bundle, (0, 1), 1)
        bundle = (1, ((), (-1,), (1,)))
        self.assert_refused(BadNumber, "given", 1, put, bundle, (0, 1, 2), 1)
        self.assert_told(((),), put, bundle, (1, 2), 1)

    def test_each_name(self):
        chance = random.Random(41)
        told = 0
        for bundle in bundles():
            for numbers in some_numbers(chance, bundle):
                for name in range(1, bundle[0] + 1):
                    wanted = put_by(picked(bundle, numbers), name)
                    if wanted is None:
                        self.assert_refused(BadNumber, "given", name, put, bundle, numbers, name)
                    else:
                        told += 1
                        self.assert_told(tuple(sorted(wanted)), put, bundle, numbers, name)
        self.assertGreater(told, 300)

    def test_anything_else(self):
        for numbers in ((1, 3), (), (0, 1, 2, 3, 4, 5)):
            for thing in ODD + [0, -1, 5, -2, (), (1,), [1], "1", True]:
                self.assert_keeps_given(BadNumber, self.put_of(numbers), ABC, thing)

    def put_of(self, numbers):
        """The function put with these NUMBERS."""
        def put_them(bundle, thing):
            return put(bundle, numbers, thing)
        return put_them

    def test_numbers_ahead_of_the_name(self):
        for bundle in (SQUARE, ABC, (1, ()), (7, ((),))):
            for thing in wrong_numbers(bundle):
                for name in (1, 0, None):
                    self.assert_keeps_given(BadNumbers, put, bundle, thing, name)

    def test_bundle_first(self):
        for numbers in ((), (0,), None):
            for name in (1, 0, None):
                self.assert_needs_bundle(put, numbers, name)


class DoesEndWell(Case):
    def test_ordinary(self):
        self.assert_told(True, does_end_well, THREE, (0, 1, 2, 3), (1, 2, 3))
        self.assert_told(True, does_end_well, THREE, (0, 1, 2, 3), (1, 3, 2))
        self.assert_told(True, does_end_well, THREE, (0, 1, 2, 3), (3, 1, 2))
        self.assert_told(False, does_end_well, THREE, (0, 1, 2, 3), (2, 1, 3))
        self.assert_told(False, does_end_well, THREE, (0, 1, 2, 3), (1, 2))
        self.assert_told(False, does_end_well, THREE, (0, 1, 2, 3), (1, 2, 3, 3))
        self.assert_told(False, does_end_well, SQUARE, (0, 1, 2, 3), (1, 2))
        self.assert_told(True, does_end_well, ABC, (1, 3), (1,))
        self.assert_told(False, does_end_well, ABC, (1, 2, 3), (1,))

    def test_the_empty_row(self):
        for names in range(1, 8):
            bundle = (names, ((), (-names,), (names,)))
            self.assert_told(True, does_end_well, bundle, (0,), ())
            self.assert_told(False, does_end_well, bundle, (0,), (names,))
            self.assert_told(False, does_end_well, bundle, (1, 2), ())
            self.assert_told(True, does_end_well, bundle, (1, 2), (names,))
            self.assert_told(False, does_end_well, bundle, (0, 1, 2), (names,))
            self.assert_told(False, does_end_well, bundle, (), ())

    def test_all_rows(self):
        chance = random.Random(42)
        told = 0
        for bundle in bundles():
            if bundle[0] < 5:
                for numbers in some_numbers(chance, bundle):
                    wanted = rows_that_end_well(bundle[0], picked(bundle, numbers))
                    names = sorted(names_in([bundle[1][k] for k in numbers]))
                    for row in itertools.permutations(names):
                        self.assertIs(does_end_well(bundle, numbers, row), row in wanted)
                        self.assertIs(does_end_well(bundle, numbers, row[1:]), row[1:] in wanted)
                        told += row in wanted
        self.assertGreater(told, 100)

    def test_rows_of_seven_names(self):
        for bundle in plain_bundles(28):
            for numbers in lots_of(bundle)[:3]:
                for row in rows_that_end_well(bundle[0], picked(bundle, numbers))[:30]:
                    self.assert_told(True, does_end_well, bundle, numbers, row)
                    self.assert_told(False, does_end_well, bundle, numbers, row[::-1] + (1,))

    def test_anything(self):
        wrong = ODD + [0, 1, [1], [1, 2, 3], "123", {1: 2}, (1.0 + 0j,), (True, 2, 3), (1, 2, 3, None),
                       (None, 1, 2, 3), (1, 2, "3"), ((1, 2, 3),), (-1, -2, -3), (1, 2, 4), (AGREEING,) * 3]
        for thing in [thing for thing in wrong if thing is AGREEING or thing != (1, 3, 2)]:
            for numbers in ((0, 1, 2, 3), (), (0,), (0, 1, 2)):
                self.assert_told(False, does_end_well, THREE, numbers, thing)
        for thing in changed((1, 2, 3)):
            wanted = type(thing) is tuple and all(type(k) is int for k in thing)
            wanted = wanted and thing in ((1, 2, 3), (1, 3, 2), (3, 1, 2))
            self.assert_told(wanted, does_end_well, THREE, (0, 1, 2, 3), thing)
        for thing in odd_things():
            self.assert_told(False, does_end_well, (1, ((),)), (0,), thing)

    def test_wrong_numbers(self):
        for bundle in (SQUARE, ABC, (1, ()), (7, ((),))):
            for thing in wrong_numbers(bundle):
                for row in ((), (1,), None):
                    self.assert_keeps_given(BadNumbers, does_end_well, bundle, thing, row)
                self.assert_keeps_given(BadNumbers, plain_row, bundle, thing)

    def test_bundle_first(self):
        for numbers in ((), (0,), None):
            self.assert_needs_bundle(plain_row, numbers)
            for row in ((), (1,), None):
                self.assert_needs_bundle(does_end_well, numbers, row)


class PlainRow(Case):
    def test_ordinary(self):
        self.assert_told((1,), plain_row, ABC, (1, 3))
        self.assertIn(plain_row(THREE, (0, 1, 2, 3)), ((1, 2, 3), (1, 3, 2), (3, 1, 2)))
        self.assert_told(None, plain_row, SQUARE, (0, 1, 2, 3))
        self.assert_told(None, plain_row, ABC, (1, 2, 3))
        self.assert_told(None, plain_row, ABC, ())
        self.assert_told((), plain_row, (7, ((),)), (0,))
        self.assert_told(None, plain_row, (1, ((), (-1,), (1,))), (0, 1, 2))
        self.assert_told(None, plain_row, SIGNS, tuple(range(16)))

    def test_by_all_rows(self):
        chance = random.Random(43)
        told = 0
        for bundle in bundles():
            for numbers in some_numbers(chance, bundle):
                wanted = rows_that_end_well(bundle[0], picked(bundle, numbers))
                found = self.assert_same_again(plain_row, bundle, numbers)
                if wanted:
                    told += 1
                    self.assertIn(found, wanted)
                    self.assertEqual(set(found), names_in([bundle[1][k] for k in numbers]))
                    self.assert_told(True, does_end_well, bundle, numbers, found)
                else:
                    self.assertIsNone(found)
        self.assertGreater(told, 200)

    def test_just_for_least_lots_with_the_more_1(self):
        for bundle in bundles():
            if len(bundle[1]) < 7:
                for numbers in all_numbers(bundle):
                    wanted = is_least(bundle, numbers) and more(bundle, numbers) == 1
                    self.assertEqual(plain_row(bundle, numbers) is not None, wanted)


class PlainLots(Case):
    def test_ordinary(self):
        self.assert_told(((1, 3),), plain_lots, ABC)
        self.assert_told((), plain_lots, SQUARE)
        self.assert_told(((0, 1, 2, 3),), plain_lots, THREE)
        self.assert_told(((0,), (1, 2)), plain_lots, (1, ((), (-1,), (1,))))
        self.assert_told((), plain_lots, SIGNS)

    def test_by_all_lots(self):
        for bundle in bundles() + [MANY]:
            wanted = tuple(lot for lot in lots_of(bundle)
                           if rows_that_end_well(bundle[0], picked(bundle, lot)))
            self.assert_told(wanted, plain_lots, bundle)
            self.assertEqual(wanted, tuple(lot for lot in lots_of(bundle) if more(bundle, lot) == 1))

    def test_not_at_odds(self):
        for names in range(1, 8):
            for clauses in ((), ((names,),), ((-names,),)):
                self.assert_told((), plain_lots, (names, clauses))

    def test_too_many_plain_or_not(self):
        for bundle in (MANY, SQUARE):
            many = len(lots_of(bundle))
            with mock.patch.object(leastlots, "MOST_LOTS", many):
                self.assert_same_again(plain_lots, bundle)
            with mock.patch.object(leastlots, "MOST_LOTS", many - 1):
                self.assert_refused(TooMany, "most", many - 1, plain_lots, bundle)

    def test_bundle_needed(self):
        self.assert_needs_bundle(plain_lots)


class Facts(Case):
    def test_putting_by_whichever_name_leads_on(self):
        for bundle in fewer_bundles():
            for numbers in lots_of(bundle)[:6]:
                if more(bundle, numbers) == 1:
                    clauses = picked(bundle, numbers)
                    for name in range(1, bundle[0] + 1):
                        left = put_by(clauses, name)
                        self.assertTrue(left is None or rows_that_end_well(bundle[0], left))


if __name__ == "__main__":
    unittest.main()
