"""The functions of idleclauses.made: what point [27] tells of BUNDLES made of others."""

import random
import unittest

from idleclauses.bundles import need_bundle
from idleclauses.errors import BadBundle, BadNumber, BadSetting, TooMany
from idleclauses.made import beside_of, both_of, either_of, merged, set_to
from tests.helper import (
    Case, all_rows, named_bundles, odd_integers, odd_things, odd_tuples, small_bundles,
    some_bundles, wrong_bundles,
)
from tests.opinions_terms import as_bundle, of_one, of_two
from tests.opinions_names import short_bundles

AB = (2, ((-1, 2), (1,)))
ABC = (3, ((), (-2, 3), (1,), (1, -3), (1, 2, 3)))
SEVEN = (7, ((1, 2, 3, 4, 5, 6, 7), (7,)))
SIXTEEN = (4, tuple(sorted((a, b, c, d) for a in (1, -1) for b in (2, -2) for c in (3, -3) for d in (4, -4))))
ODD = odd_things() + odd_tuples() + odd_integers()


def some():
    """BUNDLES of many kinds."""
    return small_bundles()[::9] + named_bundles() + some_bundles(25) + short_bundles(40)


def sets_of(bundle):
    """NAMES and the set of CLAUSES as frozen sets."""
    return bundle[0], {frozenset(row) for row in bundle[1]}


class SetTo(Case):
    def test_ordinary(self):
        self.assert_told((3, ((), (-3,), (-2, 3), (2, 3))), set_to, ABC, (-1,))
        self.assert_told((3, ((), (-2, 3))), set_to, ABC, (1,))
        self.assert_told(ABC, set_to, ABC, ())
        self.assert_told((2, ((),)), set_to, AB, (1, -2))
        self.assert_told((1, ()), set_to, (1, ()), (-1,))

    def test_all_settings(self):
        for bundle in some():
            for setting in all_rows(bundle[0])[::bundle[0] ** 2]:
                wanted = as_bundle(*of_one("set", *sets_of(bundle), setting))
                self.assert_told(wanted, set_to, bundle, setting)
                self.assertIs(need_bundle(wanted), wanted)

    def test_wrong_settings(self):
        for thing in ODD + [0, 1, (4,), (-4,), (1, -1), (2, 1)]:
            self.assert_keeps_given(BadSetting, set_to, ABC, thing)
        self.assert_keeps_given(BadSetting, set_to, AB, (3,))

    def test_bundle_first(self):
        for thing in ((1,), None, (0,), ()):
            self.assert_needs_bundle(set_to, thing)


class Merged(Case):
    def test_ordinary(self):
        self.assert_told((1, ((1,),)), merged, AB, 1, 2)
        self.assert_told((1, ((1,),)), merged, AB, 2, 1)
        self.assert_told((2, ((), (-1, 2), (1,), (1, -2), (1, 2))), merged, ABC, 1, 2)
        self.assert_told((2, ((), (1,), (1, -2), (1, 2))), merged, ABC, 1, 3)
        self.assert_told((2, ((), (1,), (1, -2), (1, 2))), merged, ABC, 2, 3)
        self.assert_told((6, ((1,), (1, 2, 3, 4, 5, 6))), merged, SEVEN, 7, 1)
        self.assert_told((6, ((1, 2, 3, 4, 5, 6), (6,))), merged, SEVEN, 7, 6)
        self.assert_told((6, ((1, 2, 3, 4, 5, 6), (6,))), merged, SEVEN, 2, 1)

    def test_each_two_names(self):
        for bundle in some():
            names = bundle[0]
            for i in range(1, names + 1):
                for j in range(i + 1, names + 1):
                    wanted = as_bundle(*of_one("merged", *sets_of(bundle), i, j))
                    self.assertEqual(wanted[0], names - 1)
                    self.assert_told(wanted, merged, bundle, i, j)
                    self.assert_told(wanted, merged, bundle, j, i)

    def test_wrong_names(self):
        for thing in ODD + [0, -1, 4, (1,)]:
            self.assert_refused(BadNumber, "given", thing, merged, ABC, thing, 1)
            self.assert_refused(BadNumber, "given", thing, merged, ABC, 1, thing)
            self.assert_refused(BadNumber, "given", thing, merged, ABC, thing, None)
            self.assert_refused(BadNumber, "given", thing, merged, ABC, thing, thing)
        for name in (1, 2, 3):
            self.assert_refused(BadNumber, "given", name, merged, ABC, name, name)
            self.assert_refused(BadNumber, "given", 0, merged, ABC, 0, name)
        self.assert_refused(BadNumber, "given", 1, merged, (1, ()), 1, 1)
        self.assert_refused(BadNumber, "given", 2, merged, (1, ()), 1, 2)
        self.assert_refused(BadNumber, "given", 2, merged, (1, ()), 2, 1)
        self.assert_refused(BadNumber, "given", 3, merged, AB, 2, 3)

    def test_bundle_first(self):
        for rest in ((1, 2), (None, None), (1, 1), (0, 9)):
            self.assert_needs_bundle(merged, *rest)


class Pairs(Case):
    def test_ordinary(self):
        self.assert_told((3, ((), (-2, 3), (-1, 2), (1,), (1, -3), (1, 2, 3))), both_of, AB, ABC)
        self.assert_told((3, ((-1, 2), (1,), (3,))), beside_of, AB, (1, ((1,),)))
        self.assert_told((3, ((-2, 3), (1,), (2,))), beside_of, (1, ((1,),)), AB)
        self.assert_told((2, ((-1, 2), (1,))), either_of, AB, AB)
        self.assert_told((2, ((-1, 2), (1,))), either_of, AB, (1, ((),)))
        self.assert_told((2, ((1, 2), )), either_of, (2, ((2,),)), (1, ((1,),)))

    def test_each_two(self):
        chance = random.Random(62)
        bundles = some()
        told = {}
        for _ in range(900):
            one, other = chance.choice(bundles), chance.choice(bundles)
            for word, action in (("both", both_of), ("beside", beside_of), ("either", either_of)):
                names, clauses = of_two(word, sets_of(one), sets_of(other))
                most = 7 if names > 7 else 16 if len(clauses) > 16 else None
                told[word, most] = told.get((word, most), 0) + 1
                if most:
                    self.assert_refused(TooMany, "most", most, action, one, other)
                else:
                    self.assert_told(as_bundle(names, clauses), action, one, other)
        for key in (("both", None), ("both", 16), ("beside", None), ("beside", 7), ("beside", 16),
                    ("either", None), ("either", 16)):
            self.assertGreater(told.get(key, 0), 4, key)

    def test_no_clauses(self):
        for bundle in some():
            empty = (bundle[0], ())
            self.assert_told(bundle, both_of, bundle, empty)
            self.assert_told(bundle, both_of, (1, ()), bundle)
            self.assert_told(empty, either_of, bundle, empty)
            self.assert_told(empty, either_of, (1, ()), bundle)
            if bundle[0] < 7:
                self.assert_told((bundle[0] + 1, bundle[1]), beside_of, bundle, (1, ()))

    def test_the_greater_names(self):
        for n in range(1, 8):
            for m in range(1, 8):
                self.assert_told((max(n, m), ((), (m,))), both_of, (n, ((),)), (m, ((m,),)))
                self.assert_told((max(n, m), ((m,),)), either_of, (n, ((),)), (m, ((m,),)))
                if n + m < 8:
                    self.assert_told((n + m, ((), (n + m,))), beside_of, (n, ((),)), (m, ((m,),)))
                else:
                    self.assert_refused(TooMany, "most", 7, beside_of, (n, ((),)), (m, ((m,),)))

    def test_16_clauses_and_one_more(self):
        self.assert_told(SIXTEEN, both_of, SIXTEEN, SIXTEEN)
        self.assert_told(SIXTEEN, both_of, SIXTEEN, (1, ()))
        self.assert_told(SIXTEEN, both_of, (4, SIXTEEN[1][:9]), (4, SIXTEEN[1][5:]))
        self.assert_refused(TooMany, "most", 16, both_of, SIXTEEN, (1, ((),)))
        self.assert_refused(TooMany, "most", 16, both_of, (1, ((1,),)), SIXTEEN)
        self.assert_refused(TooMany, "most", 16, beside_of, SIXTEEN, (3, ((1,),)))
        self.assert_told((7, SIXTEEN[1]), beside_of, SIXTEEN, (3, ()))
        self.assert_told(SIXTEEN, either_of, SIXTEEN, (4, ((),)))
        self.assert_told(SIXTEEN, either_of, SIXTEEN, SIXTEEN)
        self.assert_refused(TooMany, "most", 16, either_of, SIXTEEN, (6, ((5,), (6,))))
        self.assert_told((5, tuple(sorted((*row, 5) for row in SIXTEEN[1]))), either_of, SIXTEEN, (5, ((5,),)))

    def test_names_ahead_of_clauses(self):
        self.assert_refused(TooMany, "most", 7, beside_of, SIXTEEN, (4, ((1,),)))
        self.assert_refused(TooMany, "most", 7, beside_of, SIXTEEN, (7, SIXTEEN[1]))
        self.assert_refused(TooMany, "most", 7, beside_of, (7, ()), (1, ()))

    def test_first_bundle_then_the_other(self):
        for action in (both_of, beside_of, either_of):
            for rest in (AB, None, (8, ()), (7, ())):
                self.assert_needs_bundle(action, rest)
            for part, thing in wrong_bundles():
                self.assert_refused(BadBundle, "part", part, action, AB, thing)
                self.assert_refused(BadBundle, "part", part, action, SIXTEEN, thing)
            for thing in ODD:
                if not (isinstance(thing, tuple) and len(thing) == 2):
                    self.assert_refused(BadBundle, "part", "form", action, AB, thing)
            self.assert_refused(BadBundle, "part", "names", action, (8, ()), (3, ((9,),)))
            self.assert_refused(BadBundle, "part", 0, action, (3, ((9,),)), (8, ()))


if __name__ == "__main__":
    unittest.main()
