"""Second opinions on points 12 to 20, told as plainly as the document tells it.

None of this uses the program. A verdict is ("told", RESULT) or ("part", PART), which is refused.
"""

import functools
import itertools
import random

from tests.helper import (
    all_lots, all_rows, does_meet, layered_bundles, named_bundles, small_bundles, some_bundles,
    whole_settings,
)
from tests.opinions import is_lot_of, is_number, is_row, is_worded, names_in


def short_bundles(many):
    """BUNDLES of 2 to 7 names with 2 to 12 short CLAUSES: with HALVES and without, and at odds."""
    chance = random.Random(21)
    found = []
    for k in range(many):
        names = 2 + k % 6
        rows = [row for row in all_rows(names) if 1 <= len(row) <= 2 + k % 2]
        clauses = chance.sample(rows, min(len(rows), chance.randint(2, 12)))
        found.append((names, tuple(sorted(clauses))))
    return found


def paired_bundles(many):
    """BUNDLES of CLAUSES of two LITERALS, at odds though () does not fall."""
    chance = random.Random(22)
    found = []
    for k in range(many):
        names = 2 + k % 6
        ring = chance.sample(range(1, names + 1), chance.randint(2, names))
        signed = [name * chance.choice((1, -1)) for name in ring]
        rows = [(signed[-1], signed[0]), (-signed[-1], -signed[0])]
        for one, other in zip(signed, signed[1:]):
            rows += [(-one, other), (one, -other)]
        rows += chance.sample([row for row in all_rows(names) if len(row) == 2], k % 3)
        found.append((names, tuple(sorted({tuple(sorted(row, key=abs)) for row in rows}))))
    return found


def bundles():
    """BUNDLES of many kinds."""
    return (small_bundles() + named_bundles() + some_bundles(80) + layered_bundles(40)
            + short_bundles(150) + paired_bundles(24))


def fewer_bundles():
    """Some of them, with all of the edges."""
    return (small_bundles()[::11] + named_bundles() + some_bundles(20) + layered_bundles(15)
            + short_bundles(40) + paired_bundles(8))


def weight(whole, row, literal):
    """What a LITERAL weighs."""
    return row[literal - 1] if literal > 0 else whole - row[-literal - 1]


def is_weighed(bundle, whole, row):
    """Whether it is the ROW of a WEIGHING with this D."""
    if type(row) is not tuple or len(row) != bundle[0]:
        return False
    if not all(is_number(k, 0, whole) for k in row):
        return False
    return all(sum(weight(whole, row, k) for k in clause) <= whole for clause in bundle[1])


def is_weighing_of(bundle, thing):
    """Whether it is a WEIGHING."""
    if type(thing) is not tuple or len(thing) != 2:
        return False
    return is_number(thing[0], 1, 10 ** 100) and is_weighed(bundle, thing[0], thing[1])


@functools.lru_cache(maxsize=4000)
def halves_of(bundle):
    """All HALVES, ascending."""
    rows = itertools.product((0, 1, 2), repeat=bundle[0])
    return tuple(row for row in rows if is_weighed(bundle, 2, row))


def do_clash(bundle, hefts):
    """Whether they are HEFTS that clash."""
    names, clauses = bundle
    if type(hefts) is not tuple or len(hefts) != len(clauses):
        return False
    if not all(is_number(k, 0, 10 ** 60 - 1) for k in hefts):
        return False
    taken = 0
    for name in range(1, names + 1):
        sums = [sum(k for k, row in zip(hefts, clauses) if literal in row) for literal in (name, -name)]
        taken += min(sums)
    return taken > sum(hefts)


def halves_verdict(bundle, paper):
    """What check_halves has to do."""
    if not is_worded(("halves", "clash"), paper):
        return "part", "form"
    word, thing = paper
    holds = is_weighed(bundle, 2, thing) if word == "halves" else do_clash(bundle, thing)
    return ("told", word) if holds else ("part", word)


def follow(bundle, setting, backwards=False):
    """The SETTING that is left when one is followed, or None; CLAUSES in one order or the other."""
    left = set(setting)
    order = bundle[1][::-1] if backwards else bundle[1]
    while True:
        if any(all(-k in left for k in row) for row in bundle[1]):
            return None
        further = [k for row in order if not does_meet(left, row)
                   for k in row if all(-other in left for other in row if other != k)]
        if not further:
            return tuple(sorted(left, key=abs))
        left.add(further[0])


def falls_by(bundle, number):
    """Whether () falls, for 0, or a name and its contrary one alone do."""
    settings = [()] if number == 0 else [(number,), (-number,)]
    return all(follow(bundle, setting) is None for setting in settings)


@functools.lru_cache(maxsize=4000)
def answers(bundle):
    """All whole SETTINGS that meet all CLAUSES."""
    return tuple(row for row in whole_settings(bundle[0])
                 if all(does_meet(row, clause) for clause in bundle[1]))


def answer_verdict(bundle, paper):
    """What check_answer has to do."""
    if not is_worded(("met", "falls"), paper):
        return "part", "form"
    word, thing = paper
    if word == "met":
        holds = is_row(bundle[0], thing) and len(thing) == bundle[0] and thing in answers(bundle)
    else:
        holds = is_number(thing, 0, bundle[0]) and falls_by(bundle, thing)
    return ("told", word) if holds else ("part", word)


def is_matched(bundle, thing):
    """Whether it is a MATCHING."""
    if type(thing) is not tuple:
        return False
    for pair in thing:
        if type(pair) is not tuple or len(pair) != 2:
            return False
        if not is_number(pair[0], 0, len(bundle[1]) - 1) or not is_row(bundle[0], pair[1:]):
            return False
        if pair[1] not in bundle[1][pair[0]]:
            return False
    numbers, names = [k for k, _ in thing], [abs(k) for _, k in thing]
    return numbers == sorted(set(numbers)) and len(names) == len(set(names))


def all_matchings(bundle):
    """All MATCHINGS, by going through the CLAUSES."""
    found = [()]
    for number, clause in enumerate(bundle[1]):
        found += [row + ((number, k),) for row in found for k in clause
                  if abs(k) not in {abs(other) for _, other in row}]
    return found


def are_numbers(bundle, thing):
    """Whether they are NUMBERS."""
    if type(thing) is not tuple or not all(is_number(k, 0, len(bundle[1]) - 1) for k in thing):
        return False
    return list(thing) == sorted(set(thing))


def all_numbers(bundle):
    """All NUMBERS of a BUNDLE."""
    found = [()]
    for number in range(len(bundle[1])):
        found += [row + (number,) for row in found]
    return found


def more(bundle, numbers):
    """The MORE of NUMBERS."""
    return len(numbers) - len(names_in([bundle[1][k] for k in numbers]))


@functools.lru_cache(maxsize=4000)
def excess_of(bundle):
    """The EXCESS, by all NUMBERS."""
    found = [(0, 0)]
    for clause in bundle[1]:
        names = sum(1 << abs(k) for k in clause)
        found += [(many + 1, ahead | names) for many, ahead in found]
    return max(many - bin(names).count("1") for many, names in found)


def excess_verdict(bundle, paper):
    """What check_excess has to do."""
    if type(paper) is not tuple or len(paper) != 2:
        return "part", "form"
    if not is_matched(bundle, paper[0]):
        return "part", "matching"
    if not are_numbers(bundle, paper[1]):
        return "part", "numbers"
    if len(bundle[1]) - len(paper[0]) != more(bundle, paper[1]):
        return "part", "count"
    return "told", more(bundle, paper[1])


def with_names_of(bundle, lot):
    """The numbers of the CLAUSES that have a name of a LOT."""
    return [k for k, row in enumerate(bundle[1]) if names_in([row]) & set(lot)]


def can_serve(rows, lot):
    """Whether each of some CLAUSES can have a name of a LOT of its own; all ways are tried."""
    if not rows:
        return True
    if len(rows) > len(lot):
        return False
    return any(can_serve(rows[1:], [other for other in lot if other != name])
               for name in lot if name in names_in(rows[:1]))


@functools.lru_cache(maxsize=4000)
def served_lots(bundle):
    """All SERVED LOTS."""
    return [lot for lot in all_lots(bundle[0])
            if can_serve([bundle[1][k] for k in with_names_of(bundle, lot)], lot)]


def greatest_of(bundle):
    """All names of all SERVED LOTS."""
    return tuple(sorted({name for lot in served_lots(bundle) for name in lot}))


def residue_of(bundle):
    """The numbers of the CLAUSES without a name of the greatest SERVED LOT."""
    beside = with_names_of(bundle, greatest_of(bundle))
    return tuple(k for k in range(len(bundle[1])) if k not in beside)


def are_doubled(bundle, lot, doubles):
    """Whether they are DOUBLES for the names that are not in a LOT."""
    others = [name for name in range(1, bundle[0] + 1) if name not in lot]
    if type(doubles) is not tuple or len(doubles) != len(others):
        return False
    barred = with_names_of(bundle, lot)
    for name, row in zip(others, doubles):
        if type(row) is not tuple or len(row) != len(others) + 1:
            return False
        if not all(is_number(k, 0, len(bundle[1]) - 1) and k not in barred for k in row):
            return False
        if len(set(row)) != len(row):
            return False
        if not all(k in names_in([bundle[1][at]]) for k, at in zip(others + [name], row)):
            return False
    return True


def served_verdict(bundle, paper):
    """What check_served has to do."""
    if type(paper) is not tuple or len(paper) != 3:
        return "part", "form"
    lot, matching, doubles = paper
    if not is_lot_of(bundle[0], lot):
        return "part", "lot"
    if not is_matched(bundle, matching) or [k for k, _ in matching] != with_names_of(bundle, lot):
        return "part", "matching"
    if not all(abs(k) in lot for _, k in matching):
        return "part", "matching"
    if not are_doubled(bundle, lot, doubles):
        return "part", "doubles"
    return "told", lot
