"""Second opinions on points 21 to 25, told as plainly as the document tells it.

None of this uses the program. A verdict is ("told", RESULT) or ("part", PART), which is refused.
"""

import functools
import itertools
import random

from tests.helper import (
    all_rows, does_meet, layered_bundles, named_bundles, small_bundles, some_bundles, whole_settings,
)
from tests.opinions import clause_by, is_number, is_refuted_by, is_row, uses_of
from tests.opinions_names import paired_bundles, short_bundles

# The most LEAST LOTS that a search for a BUNDLE with many of them came to.
MANY = (6, (
    (-6,), (-5,), (-4, -6), (-2, -5), (-2, -3, -4, 6), (-1, -2, -3, -4, 5, 6), (-1, -2, -3, -4, 6),
    (-1, -2, 3, -4, 5), (-1, -2, 3, -4, 5, 6), (-1, 2), (-1, 3, 5), (1,), (1, 6), (2,), (4,), (4, 5),
))


def odds_bundles(many):
    """BUNDLES at odds of 2 to 5 names, of which some have many LEAST LOTS."""
    chance = random.Random(31)
    found = []
    while len(found) < many:
        names = 2 + len(found) % 4
        rows = [row for row in all_rows(names) if 1 <= len(row) <= 2 + len(found) % 2]
        clauses = chance.sample(rows, min(len(rows), chance.randint(4, 13)))
        bundle = (names, tuple(sorted(clauses)))
        if odds_of(bundle)[-1]:
            found.append(bundle)
    return found


def plain_bundles(many):
    """BUNDLES that are plain LEAST LOTS: () is split up by names, again and again; and a bit more."""
    chance = random.Random(32)
    found = []
    for k in range(many):
        names = 1 + k % 7
        clauses = [()]
        for name in chance.sample(range(1, names + 1), names):
            at = chance.randrange(len(clauses))
            whole = clauses.pop(at)
            one = {literal for literal in whole if chance.random() < 0.7}
            other = set(whole) - one | {literal for literal in whole if chance.random() < 0.5}
            clauses += [row_of(one | {name}), row_of(other | {-name})]
        further = chance.sample(all_rows(names), k % 3)
        found.append((names, tuple(sorted(set(clauses + further)))))
    return found


def row_of(literals):
    """The CLAUSE of these LITERALS."""
    return tuple(sorted(literals, key=abs))


def bundles():
    """BUNDLES of many kinds, with few CLAUSES enough that all lots of them can be tried."""
    found = (small_bundles()[::2] + named_bundles() + some_bundles(50) + layered_bundles(50)
             + short_bundles(50) + paired_bundles(12) + odds_bundles(60) + plain_bundles(40))
    return [bundle for bundle in found if len(bundle[1]) < 12] + found[-30:-20] + named_bundles()[8:11]


def fewer_bundles():
    """Some of them, with all of the edges."""
    return (small_bundles()[::17] + [b for b in named_bundles() if len(b[1]) < 12]
            + layered_bundles(10) + odds_bundles(15) + plain_bundles(14))


@functools.lru_cache(maxsize=None)
def missed_by(names, clause):
    """The whole SETTINGS that do not meet a CLAUSE, as bits."""
    return sum(1 << at for at, row in enumerate(whole_settings(names)) if not does_meet(row, clause))


@functools.lru_cache(maxsize=4000)
def odds_of(bundle):
    """For each lot of CLAUSES, as bits, whether they are at odds."""
    names, clauses = bundle
    missed = [0]
    for clause in clauses:
        missed += [ahead | missed_by(names, clause) for ahead in missed]
    every = (1 << (1 << names)) - 1
    return [codes == every for codes in missed]


def bits(numbers):
    """NUMBERS as bits."""
    return sum(1 << k for k in numbers)


def is_least(bundle, numbers):
    """Whether NUMBERS are a LEAST LOT."""
    odds = odds_of(bundle)
    return odds[bits(numbers)] and not any(odds[bits(numbers) - (1 << k)] for k in numbers)


@functools.lru_cache(maxsize=4000)
def lots_of(bundle):
    """All LEAST LOTS, ascending, by all lots of CLAUSES."""
    odds = odds_of(bundle)
    many = len(bundle[1])
    found = [lot for lot in range(1 << many) if odds[lot]
             and not any(lot >> k & 1 and odds[lot - (1 << k)] for k in range(many))]
    return tuple(sorted(tuple(k for k in range(many) if lot >> k & 1) for lot in found))


def first_of(bundle):
    """The first LEAST LOT, or None."""
    odds = odds_of(bundle)
    left = set(range(len(bundle[1])))
    if not odds[bits(left)]:
        return None
    for number in reversed(range(len(bundle[1]))):
        if odds[bits(left - {number})]:
            left.discard(number)
    return tuple(sorted(left))


def least_verdict(bundle, numbers, paper):
    """What check_least has to do."""
    lengths = {"least": 3, "met": 2, "spare": 3}
    if type(paper) is not tuple or not paper or type(paper[0]) is not str:
        return "part", "form"
    if lengths.get(paper[0]) != len(paper):
        return "part", "form"
    word, *things = paper
    holds = {"least": is_least_told, "met": is_met, "spare": is_spare}[word](bundle, numbers, *things)
    return ("told", word) if holds else ("part", word)


def is_met(bundle, numbers, thing):
    """Whether it is a SETTING that meets all of these CLAUSES."""
    return is_row(bundle[0], thing) and all(does_meet(thing, bundle[1][k]) for k in numbers)


def is_least_told(bundle, numbers, chain, settings):
    """Whether they are a REFUTATION by these CLAUSES, and SETTINGS for all but each one."""
    if not is_refuted_by(bundle, chain) or not uses_of(chain) <= set(numbers):
        return False
    if type(settings) is not tuple or len(settings) != len(numbers):
        return False
    return all(is_met(bundle, [k for k in numbers if k != number], setting)
               for number, setting in zip(numbers, settings))


def is_spare(bundle, numbers, number, chain):
    """Whether they are one of these numbers, and a REFUTATION by the others."""
    if not is_number(number, 0, 15) or number not in numbers:
        return False
    return is_refuted_by(bundle, chain) and uses_of(chain) <= set(numbers) - {number}


def put_by(clauses, name):
    """The set of the CLAUSES if these are put by a NAME, or None."""
    having = [row for row in clauses if name in row or -name in row]
    if len(having) != 2:
        return None
    for one, other in (having, having[::-1]):
        clause = clause_by(one, other, name)
        if clause is not None and clause not in clauses:
            return frozenset(clauses) - {one, other} | {clause}
    return None


@functools.lru_cache(maxsize=4000)
def rows_that_end_well(names, clauses):
    """All rows of NAMES that end well for a frozen set of CLAUSES; all are tried."""
    found = [()] if clauses == {()} else []
    for name in range(1, names + 1):
        left = put_by(clauses, name)
        if left is not None:
            found += [(name, *row) for row in rows_that_end_well(names, left)]
    return found


def picked(bundle, numbers):
    """The frozen set of the CLAUSES with these numbers."""
    return frozenset(bundle[1][k] for k in numbers)


def count_of(bundle):
    """The COUNT, by all whole SETTINGS."""
    return sum(all(does_meet(row, clause) for clause in bundle[1]) for row in whole_settings(bundle[0]))


def clashes(one, other):
    """Whether two tuples of LITERALS have contrary ones."""
    return any(-k in other for k in one)


def are_clashed(rows):
    """Whether each two of some tuples of LITERALS have contrary ones."""
    return all(clashes(one, other) for one, other in itertools.combinations(rows, 2))


def count_verdict(bundle, paper):
    """What check_count has to do."""
    names, clauses = bundle
    if type(paper) is not tuple or len(paper) != 2 or not all(type(part) is tuple for part in paper):
        return "part", "form"
    goods, bads = paper
    both = goods + bads
    if not 1 <= len(both) <= 128 or not all(is_row(names, row) for row in both):
        return "part", "settings"
    if not are_clashed(both):
        return "part", "clash"
    if not all(does_meet(row, clause) for row in goods for clause in clauses):
        return "part", "goods"
    if not all(any(all(-k in row for k in clause) for clause in clauses) for row in bads):
        return "part", "bads"
    if sum(1 << names - len(row) for row in both) != 1 << names:
        return "part", "sum"
    return "told", sum(1 << names - len(row) for row in goods)
