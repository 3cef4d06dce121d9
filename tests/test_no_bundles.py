"""What is no BUNDLE, passed to each function of readings, halves and following, and how many lines that runs."""

import unittest

from idleclauses.bundles import need_bundle
from idleclauses.following import answer_paper, check_answer, followed, least_setting
from idleclauses.halves import are_halves, all_halves, check_halves, halves_paper, rounded, tidy_by
from idleclauses.readings import (
    all_plain, check_reading, is_plain, nearest_reading, plain_reading, read_by, reading_paper,
)
from tests.helper import AGREEING, all_rows, lines_run, odd_things, refused_part, some_numbers

ALONE = (
    plain_reading, all_plain, nearest_reading, reading_paper, all_halves, halves_paper, answer_paper,
)
WITH_MORE = (
    read_by, is_plain, check_reading, are_halves, rounded, check_halves, tidy_by, followed,
    check_answer, least_setting,
)
TWELVE = (7, (
    (-6, 7), (-5, 6), (-4, 5), (-3, 4), (-2, -4, -6), (-2, 3), (-1, -7), (-1, 2), (1, -2), (1, 7),
    (2, -3), (2, 4, 6),
))
LATE = (7, TWELVE[1] + ((1, 1),))
MANY = 150


def drawn(many):
    """BUNDLES of up to seven names and sixteen CLAUSES, long ones or not, by a fixed rule."""
    state = 5
    found = []
    for k in range(many):
        names = 1 + k % 7
        rows = [row for row in all_rows(names) if len(row) <= (7, 4, 3)[k % 3]]
        state, places = some_numbers(state, 1 + k * 5 % 16)
        found.append((names, tuple(sorted({rows[place % len(rows)] for place in places}))))
    return found


def of_another_form(bundle):
    """Things that are no pair."""
    names, clauses = bundle
    return [None, True, names, "ab", (), (names,), (bundle,), (clauses,), [names, clauses],
            (names, clauses, ()), (names, *clauses, 0, 0), {names: clauses}, AGREEING]


def no_names():
    """Things that are no NAMES."""
    return [None, True, False, 0, 8, -1, -7, 10 ** 59, "7", (7,), [7], 1j, AGREEING]


def no_clauses(bundle):
    """Things that are no tuple of at most sixteen."""
    _, clauses = bundle
    return [None, True, 3, "", "ab", {}, list(clauses), [], {1: clauses}, (None,) * 17, ((),) * 17,
            (*clauses, *[(1,)] * 17), AGREEING]


def no_clause(names, right):
    """Things that are no CLAUSE of these NAMES, also a right one with something otherwise."""
    found = [None, 1, "ab", [], [1], (0,), (True,), (names + 1,), (-names - 1,), (1, 1), (1, -1),
             (2, 1), ("1",), (None,), (1, True), (True, 2), (0, True), (1j,), ((),), (AGREEING,),
             (1, AGREEING), AGREEING, (1, [2]), (0, 1, 2), (1, 2, 2), (1, 3, 2, 4), (True, 2, 3, 4),
             (2, True, 3), (0, 1, 2, 3, 4), tuple(range(1, names + 2)), list(right), right + (0,),
             right + (8,), right + (None,), (True,) + right, (0,) + right]
    for at in range(len(right)):
        found += [right[:at] + (thing,) + right[at + 1:] for thing in (True, 0, "2", 2j, [2], -names - 1)]
        found += [right[:at] + (right[at], right[at]) + right[at + 1:],
                  right[:at] + (right[at], -right[at]) + right[at + 1:]]
    return found


def out_of_order(ahead):
    """CLAUSES that are not greater than the last one of these."""
    return sorted({ahead[-1], ahead[0], ahead[len(ahead) // 2], ahead[-1][:-1], ()})


def no_bundles(bundle, start):
    """Pairs of the part that is due, and a thing that is no BUNDLE for this part.

    Of what is no CLAUSE only some are taken, others with each start.
    """
    names, clauses = bundle
    found = [("form", thing) for thing in of_another_form(bundle)]
    found += [("names", (thing, clauses)) for thing in no_names()]
    found += [("names", (thing, None)) for thing in no_names()]
    found += [("clauses", (names, thing)) for thing in no_clauses(bundle)]
    for many in range(min(12, len(clauses)) + 1):
        ahead, behind = clauses[:many], clauses[many:15]
        wrong = no_clause(names, (clauses + ((names,),))[many])
        found += [(many, (names, (*ahead, thing, *behind))) for thing in wrong[(start + many) % 4::4]]
        found += [(many, (names, (*ahead, thing))) for thing in wrong[(start + many) % 7::7]]
        if many > 0:
            found += [(many, (names, (*ahead, thing, *behind))) for thing in out_of_order(ahead)]
    return found


class NoBundles(unittest.TestCase):
    def test_there_are_all_sorts(self):
        bundles = drawn(MANY)
        self.assertEqual(bundles, drawn(MANY))
        self.assertGreater(len(set(bundles)), MANY * 3 // 4)
        self.assertEqual({names for names, _ in bundles}, set(range(1, 8)))
        self.assertEqual({len(row) for _, clauses in bundles for row in clauses}, set(range(8)))
        parts = [part for at, bundle in enumerate(bundles) for part, _ in no_bundles(bundle, at)]
        self.assertEqual(set(parts), {"form", "names", "clauses", *range(13)})
        self.assertGreater(min(parts.count(part) for part in set(parts)), 100)
        self.assertGreater(len(parts), 30 * MANY)

    def test_each_is_refused_by_each_of_the_seventeen(self):
        self.assertEqual(len(ALONE) + len(WITH_MORE), 17)
        for at, bundle in enumerate(drawn(MANY)):
            for part, thing in no_bundles(bundle, at):
                self.ask(part, thing, bundle)

    def ask(self, part, thing, bundle):
        """Each function refuses it for this part, each time, and changes nothing."""
        ahead = repr(thing)
        found = [refused_part(action, thing) for action in ALONE * 2]
        for more in (None, (), (1,) * bundle[0]):
            found += [refused_part(action, thing, more) for action in WITH_MORE * 2]
        # The words for them tell True from 1, too.
        self.assertEqual([repr(one) for one in found], [repr(part)] * len(found), ahead)
        self.assertEqual(repr(thing), ahead)

    def test_what_is_one_is_not_refused(self):
        for bundle in drawn(MANY):
            self.assertIs(need_bundle(bundle), bundle)
            found = [refused_part(action, bundle) for action in ALONE]
            found += [refused_part(action, bundle, None) for action in WITH_MORE]
            self.assertEqual(found, [None] * 17)

    def test_odd_things_behind_each_number_of_right_ones(self):
        for many in range(13):
            for thing in odd_things():
                bundle = (7, (*TWELVE[1][:many], thing, *TWELVE[1][many:]))
                self.ask(many, bundle, TWELVE)


class Lines(unittest.TestCase):
    def test_no_more_than_half_of_what_it_was(self):
        # The calls ran 226, 231, and each of the refusals about 241 lines, when they were too slow.
        self.assertLessEqual(lines_run(need_bundle, TWELVE), 115)
        self.assertLessEqual(lines_run(are_halves, TWELVE, None), 118)
        for action in ALONE:
            self.assertLessEqual(lines_run(action, LATE), 122, action.__name__)
        for action in WITH_MORE:
            self.assertLessEqual(lines_run(action, LATE, None), 122, action.__name__)

    def test_what_is_far_too_long_is_not_gone_through(self):
        for row in (tuple(range(1, 20001)), (1,) * 20000, (None,) * 20000):
            self.assertLessEqual(lines_run(need_bundle, (7, (row,))), 40)
        self.assertLessEqual(lines_run(need_bundle, (7, ((),) * 20000)), 10)

    def test_readings_all_at_once(self):
        # These ran 4,690 lines and more, when they asked each reading for each clause.
        for action in (plain_reading, all_plain, nearest_reading):
            self.assertLessEqual(lines_run(action, TWELVE), 1500, action.__name__)


if __name__ == "__main__":
    unittest.main()
