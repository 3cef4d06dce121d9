"""The functions of idleclauses.readings: points [10] and [11]."""

import itertools
import random
import unittest

from idleclauses.bundles import need_bundle
from idleclauses.errors import BadLot, BadPaper
from idleclauses.readings import (
    all_plain, check_reading, is_plain, nearest_reading, plain_reading, read_by, reading_paper,
)
from idleclauses.settings import is_tidy, met, touched
from tests.helper import (
    Case, all_lots, all_rows, layered_bundles, named_bundles, odd_integers, odd_things, odd_tuples,
    small_bundles, some_bundles,
)
from tests.opinions import (
    changed, how_crowded, is_ring_of, plain_readings, reading_verdict,
)

# Plain by no reading: each two of the LITERALS 1 and 2, with each sign.
SQUARE = (2, ((-1, -2), (-1, 2), (1, -2), (1, 2)))
RING = ("ring", ((1, 2), (2, 3), (-1, 0), (2, 1)))
RULES = (4, ((-3, 4), (-2, -3, -4), (-1, -2, 3), (1,)))
MIXED = (4, ((1, 2), (1, 3), (2, 3), (3, 4)))
SIGNS = named_bundles()[8]


def bundles():
    """BUNDLES of many kinds, with PLAIN READINGS and without."""
    chance = random.Random(9)
    found = small_bundles() + named_bundles() + some_bundles(80) + layered_bundles(30)
    for k in range(120):
        names = 2 + k % 6
        rows = [row for row in all_rows(names) if 1 <= len(row) <= 3]
        clauses = chance.sample(rows, min(len(rows), chance.randint(2, 7)))
        found.append((names, tuple(sorted(clauses))))
    return found + [RULES, MIXED]


class Bundles(Case):
    def test_there_are_both_sorts(self):
        found = [bool(plain_readings(bundle)) for bundle in bundles()]
        self.assertGreater(found.count(True), 100)
        self.assertGreater(found.count(False), 100)


class ReadBy(Case):
    def test_ordinary(self):
        self.assert_told((4, ((-3, 4), (-2, -3, -4), (-1,), (1, -2, 3))), read_by, RULES, (1,))
        self.assert_told((4, ((-4,), (-3,))), read_by, (4, ((3,), (4,))), (3, 4))
        self.assert_told((4, ((-3, 4), (-2, -3), (-1, -3), (-1, -2))), read_by, MIXED, (1, 2, 3))

    def test_nothing_turned(self):
        for bundle in bundles():
            self.assert_told(bundle, read_by, bundle, ())

    def test_all_readings(self):
        for bundle in bundles()[::4]:
            for lot in all_lots(bundle[0]):
                rows = [tuple(-k if abs(k) in lot else k for k in row) for row in bundle[1]]
                found = read_by(bundle, lot)
                self.assertEqual(found, (bundle[0], tuple(sorted(rows))))
                self.assertIs(need_bundle(found), found)
                self.assertEqual(read_by(found, lot), bundle)

    def test_no_clauses_and_the_empty_one(self):
        for names in range(1, 8):
            for clauses in ((), ((),)):
                for lot in ((), (1,), (names,), tuple(range(1, names + 1))):
                    self.assert_told((names, clauses), read_by, (names, clauses), lot)

    def test_settings_that_are_read_likewise(self):
        for bundle in bundles()[::40]:
            for lot in all_lots(bundle[0])[::3]:
                read = read_by(bundle, lot)
                places = [read[1].index(tuple(-k if abs(k) in lot else k for k in row)) for row in bundle[1]]
                for setting in all_rows(bundle[0])[::7]:
                    other = tuple(-k if abs(k) in lot else k for k in setting)
                    self.assertEqual(is_tidy(bundle, setting), is_tidy(read, other))
                    self.assertEqual(sorted(places[k] for k in met(bundle, setting)),
                                     list(met(read, other)))
                    self.assertEqual(sorted(places[k] for k in touched(bundle, setting)),
                                     list(touched(read, other)))

    def test_wrong_lots(self):
        for action in (read_by, is_plain):
            for thing in odd_things() + odd_tuples() + odd_integers() + [0, 1, (-1,), (5,), (-3, -2)]:
                self.assert_keeps_given(BadLot, action, RULES, thing)
                self.assert_keeps_given(BadLot, action, (4, ()), thing)
            for thing in ((1, -2), (-1, 2), (1, 1, 2), (2, 1), (1, 2, 5), [1], (True,), (1, None)):
                self.assert_keeps_given(BadLot, action, RULES, thing)
            for names in range(1, 8):
                self.assert_keeps_given(BadLot, action, (names, ()), (names + 1,))

    def test_bundle_first(self):
        for action in (read_by, is_plain):
            for thing in ((1,), (), None, (0,), []):
                self.assert_needs_bundle(action, thing)


class IsPlain(Case):
    def test_ordinary(self):
        self.assert_told(True, is_plain, RULES, ())
        self.assert_told(False, is_plain, RULES, (2,))
        self.assert_told(False, is_plain, MIXED, ())
        self.assert_told(True, is_plain, MIXED, (1, 2, 3))
        self.assert_told(True, is_plain, MIXED, (2, 3))
        self.assert_told(False, is_plain, MIXED, (2, 4))

    def test_nothing_to_be_up(self):
        for names in range(1, 8):
            for clauses in ((), ((),), ((names,),), ((-names,),), ((), (-1,))):
                for lot in ((), (names,), tuple(range(1, names + 1))):
                    self.assert_told(True, is_plain, (names, clauses), lot)

    def test_all_readings(self):
        for bundle in bundles()[::2]:
            for lot in all_lots(bundle[0]):
                self.assertIs(is_plain(bundle, lot), how_crowded(bundle, lot) == 0)


class PlainReadings(Case):
    def test_ordinary(self):
        self.assert_told((), plain_reading, RULES)
        self.assert_told((1, 2, 3), plain_reading, MIXED)
        wanted = ((1, 2, 3), (1, 2, 3, 4), (1, 2, 4), (1, 3), (1, 3, 4), (2, 3), (2, 3, 4))
        self.assert_told(wanted, all_plain, MIXED)
        self.assert_told(None, plain_reading, SQUARE)
        self.assert_told((), all_plain, SQUARE)

    def test_all_of_them(self):
        for bundle in bundles():
            wanted = tuple(plain_readings(bundle))
            self.assert_told(wanted, all_plain, bundle)
            self.assert_told(wanted[0] if wanted else None, plain_reading, bundle)

    def test_every_reading(self):
        for names in range(1, 8):
            for clauses in ((), ((),), ((names,),)):
                self.assert_told(tuple(sorted(all_lots(names))), all_plain, (names, clauses))
                self.assert_told((), plain_reading, (names, clauses))

    def test_sixteen_clauses(self):
        self.assert_told((), all_plain, SIGNS)
        self.assert_told(None, plain_reading, SIGNS)

    def test_first_as_tuples_are_ordered(self):
        # As tuples are ordered (1, 2) is ahead of (2,), though it has more names.
        self.assert_told(((1,), (1, 2), (2,)), all_plain, (2, ((1, 2),)))
        self.assert_told((1,), plain_reading, (2, ((1, 2),)))
        self.assert_told(((1, 2), (1, 2, 3), (2, 3)), all_plain, (3, ((-1, 2), (1, 2, 3))))
        self.assert_told((1, 2), plain_reading, (3, ((-1, 2), (1, 2, 3))))
        self.assert_told(((), (1, 2), (2,)), all_plain, (2, ((-1, 2),)))

    def test_bundle_needed(self):
        self.assert_needs_bundle(plain_reading)
        self.assert_needs_bundle(all_plain)


class NearestReading(Case):
    def test_ordinary(self):
        self.assert_told((), nearest_reading, RULES)
        self.assert_told((1, 2, 3), nearest_reading, MIXED)
        self.assert_told((), nearest_reading, SQUARE)
        self.assert_told((1, 2), nearest_reading, (2, ((-1, 2), (1, -2), (1, 2))))
        bundle = (4, ((-2, -3), (-2, 3), (1, 4), (2, -3), (2, 3)))
        self.assert_told(None, plain_reading, bundle)
        self.assert_told((1,), nearest_reading, bundle)

    def test_by_all_readings(self):
        for bundle in bundles():
            wanted = min(sorted(all_lots(bundle[0])), key=lambda lot: how_crowded(bundle, lot))
            self.assert_told(wanted, nearest_reading, bundle)

    def test_nothing_to_be_up(self):
        for names in range(1, 8):
            for clauses in ((), ((),), ((-names,),)):
                self.assert_told((), nearest_reading, (names, clauses))

    def test_bundle_needed(self):
        self.assert_needs_bundle(nearest_reading)


class ReadingPaper(Case):
    def test_each_paper_is_taken(self):
        for bundle in bundles():
            paper = self.assert_same_again(reading_paper, bundle)
            word = "plain" if plain_readings(bundle) else "ring"
            self.assertEqual(reading_verdict(bundle, paper), ("told", word), bundle)
            self.assert_told(word, check_reading, bundle, paper)

    def test_no_clauses(self):
        for names in range(1, 8):
            for clauses in ((), ((),), ((names,),)):
                paper = reading_paper((names, clauses))
                self.assertEqual(reading_verdict((names, clauses), paper), ("told", "plain"))

    def test_bundle_needed(self):
        self.assert_needs_bundle(reading_paper)
        for thing in (RING, None, ("plain", ()), ()):
            self.assert_needs_bundle(check_reading, thing)


class CheckReading(Case):
    def test_ordinary(self):
        self.assert_told("ring", check_reading, SQUARE, RING)
        self.assert_told("plain", check_reading, RULES, ("plain", ()))
        self.assert_told("plain", check_reading, MIXED, ("plain", (2, 3)))
        self.assert_refused(BadPaper, "part", "plain", check_reading, SQUARE, ("plain", ()))
        self.assert_refused(BadPaper, "part", "plain", check_reading, MIXED, ("plain", (2, 4)))
        self.assert_refused(BadPaper, "part", "ring", check_reading, MIXED, RING)

    def test_pairs_that_are_alike(self):
        self.assert_told("ring", check_reading, SQUARE, ("ring", RING[1] * 2))
        self.assert_told("ring", check_reading, SQUARE, ("ring", RING[1] * 1000))
        for k in range(4):
            self.assert_told("ring", check_reading, SQUARE, ("ring", RING[1][k:] + RING[1][:k]))

    def test_no_ring_of_one_pair_or_two(self):
        for bundle in small_bundles()[::7] + [SQUARE, MIXED]:
            pairs = [(k, at) for at, row in enumerate(bundle[1]) for name in range(1, bundle[0] + 1)
                     for k in (name, -name)]
            for ring in itertools.product(pairs, repeat=2):
                self.assert_refused(BadPaper, "part", "ring", check_reading, bundle, ("ring", ring))
            for pair in pairs:
                self.assert_refused(BadPaper, "part", "ring", check_reading, bundle, ("ring", (pair,)))

    def test_all_short_rings(self):
        told = 0
        for bundle in (SQUARE, (2, SQUARE[1][1:]), (2, ((-1, -2), (-1, 2), (1, 2), (2,)))):
            pairs = [(k, at) for at, row in enumerate(bundle[1]) for k in row]
            for many in (3, 4):
                for ring in itertools.product(pairs, repeat=many):
                    verdict = reading_verdict(bundle, ("ring", ring))
                    told += verdict[0] == "told"
                    if verdict[0] == "told" or ring[0][0] == 2:
                        self.assert_verdict(verdict, check_reading, bundle, ("ring", ring))
        self.assertGreater(told, 0)

    def test_two_pairs_that_lead_on_but_are_not_contrary(self):
        # 1 leads to -2 by (1, 2), and back by (1, -2) if 1 and 2 were read otherwise; not contrary.
        bundle = (2, ((-1, -2), (1, 2)))
        ring = ((1, 1), (-2, 0))
        self.assertFalse(is_ring_of(bundle, ring))
        self.assert_refused(BadPaper, "part", "ring", check_reading, bundle, ("ring", ring))
        self.assert_refused(BadPaper, "part", "ring", check_reading, bundle, ("ring", ring * 3))

    def test_the_same_literal_does_not_lead_to_its_contrary_one(self):
        bundle = (1, ((-1,), (1,)))
        for ring in itertools.product(((1, 1), (-1, 0), (1, 0), (-1, 1)), repeat=3):
            self.assert_refused(BadPaper, "part", "ring", check_reading, bundle, ("ring", ring))

    def test_never_one_of_each_sort(self):
        rings = [reading_paper(bundle) for bundle in bundles() if not plain_readings(bundle)]
        for bundle in bundles()[::10]:
            for lot in all_lots(bundle[0]):
                self.assert_verdict(reading_verdict(bundle, ("plain", lot)), check_reading, bundle,
                                    ("plain", lot))
            for ring in rings[::9]:
                self.assert_verdict(reading_verdict(bundle, ring), check_reading, bundle, ring)
                if plain_readings(bundle):
                    self.assertEqual(reading_verdict(bundle, ring), ("part", "ring"))

    def test_form(self):
        wrong = odd_things() + odd_tuples() + odd_integers() + [
            0, (), ("plain",), ("ring",), (*RING, None), list(RING), ("Ring", RING[1]), (True, ()),
            (None, ()), ("", ()), (("ring",), RING[1]), (["ring"], RING[1]), (b"ring", RING[1]),
            ("used", ()), ("tidy", ()), ("plain ring", ()), RING[1], (RING, RING), ("plain", (), ()),
        ]
        wrong += [(word, ()) for word in odd_things() + odd_tuples() + odd_integers()]
        for thing in wrong:
            self.assert_refused(BadPaper, "part", "form", check_reading, SQUARE, thing)
            self.assert_refused(BadPaper, "part", "form", check_reading, RULES, thing)

    def test_each_wrong_thing_behind_a_word(self):
        for thing in odd_things() + odd_tuples() + odd_integers() + [0]:
            for bundle in (SQUARE, RULES, (7, ())):
                self.assert_refused(BadPaper, "part", "ring", check_reading, bundle, ("ring", thing))
                verdict = ("part", "plain")
                self.assert_verdict(verdict, check_reading, bundle, ("plain", thing))
        self.assert_refused(BadPaper, "part", "ring", check_reading, SQUARE, ("ring", ()))
        self.assert_refused(BadPaper, "part", "plain", check_reading, RULES, ("plain", (5,)))
        self.assert_refused(BadPaper, "part", "plain", check_reading, RULES, ("plain", (-1,)))

    def test_something_otherwise_at_any_place(self):
        papers = [(SQUARE, RING), (RULES, ("plain", ())), (MIXED, ("plain", (2, 3)))]
        papers += [(b, reading_paper(b)) for b in bundles()[-40:]]
        for bundle, paper in papers:
            for thing in changed(paper):
                self.assert_verdict(reading_verdict(bundle, thing), check_reading, bundle, thing)


if __name__ == "__main__":
    unittest.main()
