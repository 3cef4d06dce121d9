"""Many small BUNDLES asked for all that idleclauses.kernels tells, and how many lines that runs."""

import functools
import unittest

from idleclauses.chains import clauses_of, uses
from idleclauses.kernels import (
    always_used, check_kernel, check_used, kernel, kernel_paper, single_chain, used_paper,
)
from tests.helper import (
    all_rows, does_meet, does_touch, lines_run, some_numbers, whole_settings,
)
from tests.opinions import chain_read, names_in, uses_of

MANY = 3000
SEVEN = (7, (
    (-6, 7), (-5, 6), (-4, 5), (-3, 4), (-2, -4, -6), (-2, 3), (-1, -7), (-1, 2), (1, -2), (1, 7),
    (2, -3), (2, 4, 6), (3, -4), (4, -5), (5, -6), (6, -7),
))
FIVE = (5, (
    (-5,), (-4, 5), (-3, 4), (-2, -3), (-2, 3), (-1,), (1, 2, 3), (1, 4), (2,), (3, -4), (5,),
))


def drawn(many):
    """BUNDLES of up to five names and ten CLAUSES, and up to eight at odds by a name or two.

    They are drawn by a fixed rule, so they are the same ones each time.
    """
    state = 1
    found = []
    for _ in range(many):
        state, (size, tries, sort, first, second) = some_numbers(state, 5)
        names = 1 + size % 5
        rows = all_rows(names)
        state, places = some_numbers(state, tries % 11)
        clauses = {rows[place % len(rows)] for place in places}
        clauses.update(at_odds_by(sort % 4, 1 + first % names, 1 + second % names))
        found.append((names, tuple(sorted(clauses)[:16])))
    return found


def at_odds_by(sort, one, other):
    """CLAUSES at odds by one name, by two, or by each of them; or none."""
    single = [(one,), (-one,)]
    pairs = [tuple(sorted((a, b), key=abs)) for a in (one, -one) for b in (other, -other)]
    if sort < 2 or one == other:
        return single * sort
    return pairs if sort == 2 else [(other,), (-other,)] + pairs + single


@functools.lru_cache(maxsize=None)
def settings_of(names):
    """All SETTINGS of so many names, and all whole ones."""
    return all_rows(names), whole_settings(names)


def used_by_settings(bundle):
    """The numbers of the CLAUSES that no TIDY SETTING touches; all SETTINGS are tried."""
    tidy = [setting for setting in settings_of(bundle[0])[0]
            if all(does_meet(setting, row) or not does_touch(setting, row) for row in bundle[1])]
    return tuple(number for number, row in enumerate(bundle[1])
                 if not any(does_touch(setting, row) for setting in tidy))


def are_at_odds(names, clauses):
    """Whether no whole SETTING meets all CLAUSES; all are tried."""
    return not any(all(does_meet(setting, row) for row in clauses) for setting in settings_of(names)[1])


class ManyBundles(unittest.TestCase):
    def test_there_are_all_sorts(self):
        found = drawn(MANY)
        self.assertEqual(found, drawn(MANY))
        self.assertGreater(len(set(found)), MANY // 2)
        self.assertGreater(len([1 for bundle in found if are_at_odds(*bundle)]), MANY // 4)
        self.assertGreater(len([1 for bundle in found if not are_at_odds(*bundle)]), MANY // 8)
        self.assertEqual({bundle[0] for bundle in found}, {1, 2, 3, 4, 5})

    def test_each_is_asked(self):
        for bundle in drawn(MANY):
            with self.subTest(bundle=bundle):
                used = used_by_settings(bundle)
                for _ in range(3):
                    self.assertEqual(kernel(bundle), used)
                for number in range(len(bundle[1])):
                    self.ask_used(bundle, number, number in used)
                paper = kernel_paper(bundle)
                self.assertEqual(check_kernel(bundle, paper), used)
                self.ask_rest(bundle, paper[1], used)
                self.ask_always(bundle)
                names = names_in([bundle[1][number] for number in used])
                for name in range(1, bundle[0] + 1):
                    for literal in (name, -name):
                        self.ask_single(bundle, literal, name in names)

    def ask_used(self, bundle, number, wanted):
        """The PAPER on whether a CLAUSE is USED, which is read by itself, too."""
        paper = used_paper(bundle, number)
        self.assertEqual(used_paper(bundle, number), paper)
        self.assertEqual(check_used(bundle, number, paper), "used" if wanted else "tidy")
        word, thing = paper
        if word == "used":
            self.assertEqual(chain_read(bundle, thing)[0][-1], ())
            self.assertIn(number, uses_of(thing))
        else:
            self.assertTrue(does_touch(thing, bundle[1][number]))
            self.assertTrue(all(does_meet(thing, row) or not does_touch(thing, row) for row in bundle[1]))

    def ask_rest(self, bundle, setting, used):
        """The SETTING of a PAPER on the KERNEL meets all that is not USED, and touches nothing else."""
        for number, row in enumerate(bundle[1]):
            self.assertEqual(does_meet(setting, row), number not in used)
            self.assertEqual(does_touch(setting, row), number not in used)

    def ask_always(self, bundle):
        """The CLAUSES that are always used, by leaving each one out."""
        names, clauses = bundle
        wanted = ()
        if are_at_odds(names, clauses):
            wanted = tuple(number for number in range(len(clauses))
                           if not are_at_odds(names, clauses[:number] + clauses[number + 1:]))
        self.assertEqual(always_used(bundle), wanted)

    def ask_single(self, bundle, literal, wanted):
        """The CHAIN to a single LITERAL, with what is told of it."""
        chain = single_chain(bundle, literal)
        self.assertEqual(chain is not None, wanted)
        if wanted:
            found, _ = chain_read(bundle, chain)
            self.assertEqual(found[-1], (literal,))
            self.assertEqual(clauses_of(bundle, chain), tuple(found))
            self.assertEqual(uses(bundle, chain), tuple(sorted(uses_of(chain))))


class Lines(unittest.TestCase):
    def test_no_more_than_a_part_of_what_it_was(self):
        # A third, or of the last two a half, of how many lines the calls ran when they were too slow.
        for most, action, given in (
                (6800, used_paper, (SEVEN, 0)), (7700, always_used, (SEVEN,)), (4700, single_chain, (SEVEN, 1)),
                (4700, kernel_paper, (SEVEN,)), (3200, kernel, (SEVEN,)),
                (2500, used_paper, (FIVE, 0)), (2900, always_used, (FIVE,)), (1800, single_chain, (FIVE, 1)),
                (1700, kernel_paper, (FIVE,)), (1000, kernel, (FIVE,))):
            self.assertLessEqual(lines_run(action, *given), most, (action.__name__, given))


if __name__ == "__main__":
    unittest.main()
