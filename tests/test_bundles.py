"""The functions of idleclauses.bundles: points [1] and [2], and [7], its first sentence."""

import itertools
import unittest

from idleclauses.bundles import crossed, need_bundle, need_clause, put_to, without
from idleclauses.errors import BadBundle, BadClause, BadLot, BadNumber, TooMany
from tests.helper import (
    Case, all_lots, all_rows, odd_integers, odd_things, odd_tuples, refused_part, small_bundles,
    some_bundles, wrong_bundles,
)

EMPTY = (1, ())
ABC = (3, ((), (-2, 3), (1,), (1, -3), (1, 2, 3)))
SIXTEEN = (7, tuple(sorted((a * x, b * y) for a, b in ((1, 2), (3, 4), (5, 6), (6, 7))
                           for x in (1, -1) for y in (1, -1))))


class NeedBundle(Case):
    def test_tells_the_very_thing(self):
        bundles = [EMPTY, ABC, SIXTEEN, (7, ()), (1, ((),)), (1, ((), (-1,), (1,)))]
        for bundle in bundles + small_bundles() + some_bundles(100):
            self.assertIs(need_bundle(bundle), bundle)

    def test_each_number_of_names(self):
        for names in range(1, 8):
            for clause in ((), (names,), (-names,), tuple(range(1, names + 1))):
                self.assert_told((names, (clause,)), need_bundle, (names, (clause,)))
            self.assert_refused(BadBundle, "part", 0, need_bundle, (names, ((names + 1,),)))
            self.assert_refused(BadBundle, "part", 0, need_bundle, (names, ((-names - 1,),)))

    def test_each_wrong_thing_in_the_place_of_names(self):
        for thing in odd_things() + odd_tuples() + odd_integers() + [0, 8]:
            self.assert_refused(BadBundle, "part", "names", need_bundle, (thing, ()))
            self.assert_refused(BadBundle, "part", "names", need_bundle, (thing, None))

    def test_each_wrong_thing_in_the_place_of_clauses(self):
        for thing in odd_things() + odd_integers() + [0, 1]:
            self.assert_refused(BadBundle, "part", "clauses", need_bundle, (3, thing))

    def test_each_wrong_thing_in_the_place_of_a_clause(self):
        for thing in odd_things() + odd_tuples() + odd_integers() + [0, 1]:
            self.assert_refused(BadBundle, "part", 0, need_bundle, (3, (thing,)))
            self.assert_refused(BadBundle, "part", 1, need_bundle, (3, ((), thing)))
            self.assert_refused(BadBundle, "part", 0, need_bundle, (3, (thing, None)))

    def test_each_wrong_literal(self):
        for thing in odd_things() + odd_tuples() + odd_integers() + [0, 4, -4, ()]:
            self.assert_refused(BadBundle, "part", 0, need_bundle, (3, ((thing,),)))
            self.assert_refused(BadBundle, "part", 1, need_bundle, (3, ((), (1, thing))))

    def test_which_part(self):
        self.assert_needs_bundle(need_bundle)

    def test_order_of_each_two_clauses(self):
        for one in all_rows(2):
            for other in all_rows(2):
                bundle = (2, (one, other))
                if one < other:
                    self.assertIs(need_bundle(bundle), bundle)
                else:
                    self.assert_refused(BadBundle, "part", 1, need_bundle, bundle)

    def test_order_of_each_two_of_five_names_and_three_of_three(self):
        for names, many in ((5, 2), (3, 3)):
            for rows in itertools.product(all_rows(names), repeat=many):
                late = [at for at in range(1, many) if rows[at] <= rows[at - 1]]
                self.assertEqual(refused_part(need_bundle, (names, rows)), late[0] if late else None, rows)

    def test_each_wrong_literal_at_each_place(self):
        wrong = odd_things() + odd_integers() + [0, 8, (), (1,), 2j]
        for size in range(1, 8):
            for right in (tuple(range(1, size + 1)), tuple(-name for name in range(8 - size, 8))):
                for at in range(size):
                    for thing in wrong:
                        row = right[:at] + (thing,) + right[at + 1:]
                        self.assert_no_clause(7, row)

    def test_names_ascend_at_each_place(self):
        for size in range(2, 8):
            for signs in itertools.product((1, -1), repeat=size):
                row = tuple(name * sign for name, sign in enumerate(signs, 8 - size))
                self.assertIsNone(refused_part(need_bundle, (7, (row,))))
                for at in range(1, size):
                    self.assert_no_clause(7, row[:at] + (row[at - 1],) + row[at + 1:])
                    self.assert_no_clause(7, row[:at] + (-row[at - 1],) + row[at + 1:])
                    self.assert_no_clause(7, row[:at - 1] + (row[at], row[at - 1]) + row[at + 1:])

    def test_names_of_the_bundle_at_each_size(self):
        for names in range(1, 7):
            for size in range(1, names + 2):
                row = tuple(range(names - size + 2, names + 2))
                self.assert_no_clause(names, row)
                self.assert_no_clause(names, tuple(-name for name in row))
        for size in (8, 9, 60, 20000):
            self.assert_no_clause(7, tuple(range(1, size + 1)))

    def test_true_and_false_at_each_size(self):
        for size in range(1, 8):
            row = tuple(range(1, size + 1))
            for thing in (True, False):
                self.assert_no_clause(7, (thing,) + row[1:])
                self.assert_no_clause(7, (0, thing) + row[2:])
                self.assert_no_clause(7, (thing, thing) + row[2:])

    def assert_no_clause(self, names, row):
        """It is refused, alone and behind others."""
        for ahead in ((), ((),), ((), (-1,)), ((-1,), (1,))):
            found = refused_part(need_bundle, (names, ahead + (row,)))
            self.assertEqual(repr(found), repr(len(ahead)), f"{names} {row!r:.300}")

    def test_sixteen_but_not_seventeen(self):
        rows = sorted(all_rows(3))
        for many in range(20):
            bundle = (3, tuple(rows[:many]))
            if many <= 16:
                self.assertIs(need_bundle(bundle), bundle)
            else:
                self.assert_refused(BadBundle, "part", "clauses", need_bundle, bundle)


class NeedClause(Case):
    def test_tells_the_very_thing(self):
        for names in range(1, 8):
            for bundle in ((names, ()), (names, ((),))):
                for clause in all_rows(names):
                    self.assertIs(need_clause(bundle, clause), clause)

    def test_wrong_things(self):
        for thing in odd_things() + odd_tuples() + odd_integers() + [0, 1, (4,), (-4,), (1, 4)]:
            self.assert_keeps_given(BadClause, need_clause, ABC, thing)
            self.assert_keeps_given(BadClause, need_clause, (3, ()), thing)

    def test_wrong_literals(self):
        for thing in odd_things() + odd_tuples() + odd_integers() + [0, 4, -4, ()]:
            self.assert_keeps_given(BadClause, need_clause, ABC, (thing,))
            self.assert_keeps_given(BadClause, need_clause, ABC, (-1, thing))

    def test_names_of_this_bundle(self):
        for names in range(1, 8):
            for sign in (1, -1):
                clause = (sign * (names + 1),)
                self.assert_keeps_given(BadClause, need_clause, (names, ()), clause)

    def test_bundle_first(self):
        for thing in ((1,), None, (0,), []):
            self.assert_needs_bundle(need_clause, thing)


class Crossed(Case):
    def test_ordinary(self):
        self.assert_told((3, ((-2,), (1,), (1, 2))), crossed, ABC, (3,))
        self.assert_told((3, ((-3,), (-2, 3), (2, 3))), crossed, ABC, (1,))
        self.assert_told((3, ((1,), (1, -3), (1, 3), (3,))), crossed, ABC, (2,))
        self.assert_told((3, ((-3,), (3,))), crossed, ABC, (1, 2))
        self.assert_told((3, ((-2,), (2,))), crossed, ABC, (1, 3))

    def test_no_names_and_all_names(self):
        self.assert_told((3, ABC[1][1:]), crossed, ABC, ())
        self.assert_told((3, ()), crossed, ABC, (1, 2, 3))
        self.assert_told((1, ()), crossed, (1, ((),)), ())
        self.assert_told((1, ()), crossed, EMPTY, ())
        self.assert_told((1, ()), crossed, EMPTY, (1,))
        self.assert_told(SIXTEEN, crossed, SIXTEEN, ())
        self.assert_told((7, ()), crossed, SIXTEEN, (1, 2, 3, 4, 5, 6, 7))

    def test_clauses_that_become_alike(self):
        bundle = (2, ((-1, 2), (1, 2), (2,)))
        self.assert_told((2, ((2,),)), crossed, bundle, (1,))
        self.assert_told((2, ((-1,), (1,))), crossed, bundle, (2,))

    def test_clauses_are_in_order_anew(self):
        self.assert_told((3, ((-3,), (2,))), crossed, (3, ((-1, 2), (1, -3))), (1,))

    def test_all_lots_of_many_bundles(self):
        for names, clauses in small_bundles() + some_bundles(60):
            for lot in all_lots(names):
                left = {tuple(k for k in row if abs(k) not in lot) for row in clauses} - {()}
                found = crossed((names, clauses), lot)
                self.assertEqual(found, (names, tuple(sorted(left))))
                self.assertIs(need_bundle(found), found)

    def test_wrong_lots(self):
        for thing in odd_things() + odd_tuples() + odd_integers() + [0, 1, (-1,), (4,), (-3, -2)]:
            self.assert_keeps_given(BadLot, crossed, ABC, thing)
        for thing in ((1, -2), (-1, 2), (-2, 3), (1, 1, 2), (2, 1), (1, 2, 4), (1, 2, 3, 4), (2,)):
            names = 3 if len(thing) > 1 else 1
            self.assert_keeps_given(BadLot, crossed, (names, ()), thing)

    def test_bundle_first(self):
        for thing in ((1,), None, (0,), []):
            self.assert_needs_bundle(crossed, thing)


class Without(Case):
    def test_ordinary(self):
        self.assert_told((3, ((-2, 3), (1,), (1, -3), (1, 2, 3))), without, ABC, 0)
        self.assert_told((3, ((), (-2, 3), (1, -3), (1, 2, 3))), without, ABC, 2)
        self.assert_told((3, ((), (-2, 3), (1,), (1, -3))), without, ABC, 4)
        self.assert_told((1, ()), without, (1, ((),)), 0)

    def test_each_number(self):
        for names, clauses in small_bundles() + some_bundles(60):
            for number, clause in enumerate(clauses):
                wanted = (names, tuple(row for row in clauses if row != clause))
                self.assertEqual(without((names, clauses), number), wanted)

    def test_wrong_numbers(self):
        for thing in odd_things() + odd_tuples() + odd_integers() + [5, 6, -1, -5, (), (2,)]:
            self.assert_keeps_given(BadNumber, without, ABC, thing)
        for thing in (0, -1, 1, None):
            self.assert_keeps_given(BadNumber, without, (3, ()), thing)
        for thing in (16, -1, -16):
            self.assert_keeps_given(BadNumber, without, SIXTEEN, thing)
        self.assert_told((7, SIXTEEN[1][:15]), without, SIXTEEN, 15)

    def test_bundle_first(self):
        for thing in (0, 99, None, True):
            self.assert_needs_bundle(without, thing)


class PutTo(Case):
    def test_ordinary(self):
        self.assert_told((1, ((),)), put_to, EMPTY, ())
        self.assert_told((1, ((-1,), (1,))), put_to, (1, ((1,),)), (-1,))
        self.assert_told((2, ((-1,), (1,), (1, 2))), put_to, (2, ((-1,), (1, 2))), (1,))
        self.assert_told((2, ((1,), (1, 2))), put_to, (2, ((1,),)), (1, 2))

    def test_one_that_is_there(self):
        for bundle in (ABC, SIXTEEN, (1, ((),))):
            for clause in bundle[1]:
                again = tuple(list(clause))
                self.assertIs(put_to(bundle, again), bundle)

    def test_all_clauses_in_any_order(self):
        for names, clauses in some_bundles(60):
            bundle = (names, ())
            for at in range(len(clauses)):
                bundle = put_to(bundle, clauses[at * 5 % 16 % len(clauses)])
                self.assertIs(need_bundle(bundle), bundle)
            for clause in reversed(clauses):
                bundle = put_to(bundle, clause)
            self.assertEqual(bundle, (names, clauses))

    def test_taken_away_and_put_again(self):
        for bundle in [SIXTEEN, ABC] + small_bundles() + some_bundles(60):
            for number, clause in enumerate(bundle[1]):
                self.assertEqual(put_to(without(bundle, number), clause), bundle)

    def test_no_seventeenth(self):
        for clause in ((), (1,), (-7,), (1, 2, 3, 4, 5, 6, 7)):
            self.assert_refused(TooMany, "most", 16, put_to, SIXTEEN, clause)
            fifteen = without(SIXTEEN, 3)
            self.assertEqual(len(put_to(fifteen, clause)[1]), 16)

    def test_wrong_clauses(self):
        for thing in odd_things() + odd_tuples() + odd_integers() + [0, 1]:
            self.assert_keeps_given(BadClause, put_to, ABC, thing)
            self.assert_keeps_given(BadClause, put_to, SIXTEEN, thing)
        for thing in ((4,), (-4,), (1, 4), (1, 2, 3, 4)):
            self.assert_keeps_given(BadClause, put_to, ABC, thing)

    def test_bundle_first(self):
        for thing in ((1,), None, (0,), []):
            self.assert_needs_bundle(put_to, thing)


class Helper(Case):
    def test_wrong_bundles_have_each_part(self):
        parts = {part for part, _ in wrong_bundles()}
        self.assertEqual(parts, {"names", "clauses", 0, 1, 2, 15})


if __name__ == "__main__":
    unittest.main()
