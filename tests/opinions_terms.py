"""Second opinions on points 27 to 32, told as plainly as the document tells it.

None of this uses the program. A verdict on a TERM is ("told", BUNDLE) or ("path", PATH).
"""

import functools
import itertools
import random

from tests.helper import all_rows, does_meet, whole_settings
from tests.opinions import is_lot_of, is_number, is_row, names_in

# For each word how many TERMS stand in it.
KIDS = {
    "clause": 0, "one": 0, "most": 0, "same": 0, "both": 2, "beside": 2, "either": 2,
    "turned": 1, "crossed": 1, "set": 1, "merged": 1, "without": 1,
}


class Fault(Exception):
    """No TERM; the argument is the path."""


def has_form(thing):
    """Whether it is a tuple of a word and as many things as it wants, right without any BUNDLE."""
    if type(thing) is not tuple or not thing or type(thing[0]) is not str or thing[0] not in KIDS:
        return False
    word, *things = thing
    if word in ("clause", "one", "most", "both", "beside", "either", "turned", "crossed", "set", "without"):
        if len(things) != 2:
            return False
    elif len(things) != 3:
        return False
    if KIDS[word] == 0:
        return has_form_of_leaf(word, *things)
    return KIDS[word] == 2 or {
        "turned": lambda lot: is_lot_of(7, lot), "crossed": lambda lot: is_lot_of(7, lot),
        "set": lambda row: is_row(7, row), "without": lambda row: are_ascending(16, row),
        "merged": lambda i, j: is_number(i, 1, 7) and is_number(j, 1, 7) and i < j,
    }[word](*things[1:])


def has_form_of_leaf(word, names, *things):
    """The same of the things of a word without TERMS."""
    if not is_number(names, 1, 7):
        return False
    if word == "same":
        return all(is_row(names, (k,)) for k in things) and abs(things[0]) != abs(things[1])
    return is_row(names, things[0]) and (word == "clause" or len(things[0]) in (2, 3, 4, 5))


def are_ascending(many, thing):
    """Whether it is an ascending tuple of numbers of so many things."""
    if type(thing) is not tuple or not all(is_number(k, 0, many - 1) for k in thing):
        return False
    return list(thing) == sorted(set(thing))


def walk(thing, path, seen):
    """The first walk."""
    seen.append(path)
    if len(seen) == 21 or len(path) == 8:
        raise Fault(())
    if not has_form(thing):
        raise Fault(path)
    for at in range(1, KIDS[thing[0]] + 1):
        walk(thing[at], path + (at,), seen)


def clauses_of_leaf(word, things):
    """The set of the CLAUSES, as frozen sets of LITERALS, of a word without TERMS."""
    if word == "same":
        k, m = things
        return {frozenset([k, -m]), frozenset([-k, m])}
    found = {frozenset([-a, -b]) for a, b in itertools.combinations(things[0], 2)}
    return {"clause": set(), "one": found, "most": found}[word] | (
        set() if word == "most" else {frozenset(things[0])})


def make(term, path=()):
    """The pair of NAMES and the set of CLAUSES, as frozen sets of LITERALS; the second walk."""
    word, *things = term
    if KIDS[word] == 0:
        return things[0], clauses_of_leaf(word, things[1:])
    parts = [make(term[at], path + (at,)) for at in range(1, KIDS[word] + 1)]
    found = of_two(word, *parts) if len(parts) == 2 else of_one(word, *parts[0], *things[1:])
    if found is None or found[0] > 7 or len(found[1]) > 16:
        raise Fault(path)
    return found


def of_two(word, one, other):
    """The same for a word with two TERMS."""
    (n, one), (m, other) = one, other
    if word == "both":
        return max(n, m), one | other
    if word == "beside":
        return n + m, one | {frozenset(k + n if k > 0 else k - n for k in row) for row in other}
    found = {row | further for row in one for further in other}
    return max(n, m), {row for row in found if not is_torn(row)}


def is_torn(row):
    """Whether a LITERAL and its contrary one are in it."""
    return any(-k in row for k in row)


def of_one(word, names, clauses, *things):
    """The same for a word with one TERM; None of what fails by its BUNDLE."""
    if word == "without":
        if not are_ascending(len(clauses), things[0]):
            return None
        rows = as_bundle(names, clauses)[1]
        return names, {frozenset(row) for k, row in enumerate(rows) if k not in things[0]}
    if word == "merged":
        i, j = things
        if j > names:
            return None
        place = {k: k if k < j else i if k == j else k - 1 for k in range(1, names + 1)}
        found = {frozenset(place[k] if k > 0 else -place[-k] for k in row) for row in clauses}
        return names - 1, {row for row in found if not is_torn(row)}
    given = set(things[0])
    if names_in([given]) - set(range(1, names + 1)):
        return None
    if word == "turned":
        return names, {frozenset(-k if abs(k) in given else k for k in row) for row in clauses}
    if word == "crossed":
        return names, {frozenset(k for k in row if abs(k) not in given) for row in clauses} - {frozenset()}
    return names, {frozenset(k for k in row if -k not in given) for row in clauses if not row & given}


def as_bundle(names, clauses):
    """The BUNDLE of NAMES and a set of frozen sets."""
    return names, tuple(sorted(tuple(sorted(row, key=abs)) for row in clauses))


def term_verdict(thing):
    """What need_term and bundle_of have to do."""
    try:
        walk(thing, (), [])
        return "told", as_bundle(*make(thing))
    except Fault as fault:
        return "path", fault.args[0]


def drawn_leaf(chance, names):
    """A TERM without TERMS, of so many names or fewer."""
    word = chance.choice(("clause", "clause", "one", "most", "same"))
    names = max(1, names - chance.choice((0, 0, 0, 1)))
    lot = sorted(chance.sample(range(1, names + 1), min(names, chance.randint(0, 4))))
    row = tuple(k * chance.choice((1, -1)) for k in lot)
    if word == "clause" or len(row) < 2:
        return "clause", names, row
    return (word, names, *row[:2]) if word == "same" else (word, names, row)


def drawn_term(chance, within):
    """A TERM, or what is nearly one, of up to so many words within one another."""
    if within == 1:
        return drawn_leaf(chance, chance.choice((1, 2, 3, 3, 4, 5, 7)))
    word = chance.choice(("both", "both", "beside", "either", "turned", "crossed", "set", "merged", "without"))
    kids = [drawn_term(chance, chance.randint(1, within - 1)) for _ in range(KIDS[word])]
    if len(kids) == 2:
        return (word, *kids)
    verdict, bundle = term_verdict(kids[0])
    names, many = (bundle[0], len(bundle[1])) if verdict == "told" else (3, 3)
    # Some few have names or numbers that their BUNDLE has not.
    names, many = min(7, names + (chance.random() < 0.05)), min(16, many + (chance.random() < 0.05))
    lot = tuple(k for k in range(1, names + 1) if chance.random() < 0.4)
    if word == "merged":
        i, j = sorted(chance.sample(range(1, max(names, 2) + 1), 2))
        return word, kids[0], i, j
    if word == "without":
        return word, kids[0], tuple(k for k in range(many) if chance.random() < 0.3)
    row = tuple(k * chance.choice((1, -1)) for k in lot)
    return word, kids[0], row if word == "set" else lot


@functools.lru_cache(maxsize=None)
def drawn_terms(many, within=4, seed=61):
    """TERMS and what is nearly one, the same ones each time."""
    chance = random.Random(seed)
    return tuple(drawn_term(chance, 1 + k % within) for k in range(many))


@functools.lru_cache(maxsize=None)
def good_terms(many, within=4, seed=61):
    """Those that are TERMS, with their BUNDLES."""
    found = [(term, term_verdict(term)) for term in drawn_terms(many, within, seed)]
    return tuple((term, bundle) for term, (verdict, bundle) in found if verdict == "told")


def are_met(setting, clauses):
    """Whether a SETTING meets all CLAUSES."""
    return all(does_meet(setting, row) for row in clauses)


def unmet_by(bundle, setting):
    """The numbers of the CLAUSES that a SETTING does not meet."""
    return tuple(k for k, row in enumerate(bundle[1]) if not does_meet(setting, row))


@functools.lru_cache(maxsize=4000)
def unmet_lots(bundle):
    """The numbers of the CLAUSES that are not met, for each whole SETTING."""
    return [unmet_by(bundle, setting) for setting in whole_settings(bundle[0])]


@functools.lru_cache(maxsize=4000)
def easings_of(bundle):
    """All EASINGS; all lots of numbers are tried with all whole SETTINGS."""
    found = []
    for many in range(len(bundle[1]) + 1):
        for numbers in itertools.combinations(range(len(bundle[1])), many):
            if any(set(unmet) <= set(numbers) for unmet in unmet_lots(bundle)):
                found.append(numbers)
    return found


def least_of(easings):
    """The least ones of all EASINGS, ascending."""
    return tuple(sorted(row for row in easings if not any(set(other) < set(row) for other in easings)))


def cost_of(prices, numbers):
    """What CLAUSES with these numbers cost."""
    return sum(prices[k] for k in numbers)


def limit_by(bundle, prices, number):
    """The LIMIT, by all EASINGS, or None."""
    if bundle[1][number] == ():
        return None
    found = easings_of(bundle)
    free = prices[:number] + (0,) + prices[number + 1:]
    return (min(cost_of(prices, row) for row in found if number not in row)
            - min(cost_of(free, row) for row in found if number in row))


def are_prices(bundle, thing):
    """Whether they are PRICES."""
    return (type(thing) is tuple and len(thing) == len(bundle[1])
            and all(is_number(k, 0, 1000) for k in thing))


def cost_verdict(bundle, prices, paper):
    """What check_cost has to do: ("told", COST) or ("part", PART)."""
    if type(paper) is not tuple or len(paper) != 2:
        return "part", "form"
    setting, tree = paper
    if not is_row(bundle[0], setting) or len(setting) != bundle[0]:
        return "part", "setting"
    cost = cost_of(prices, unmet_by(bundle, setting))
    if not is_tree(bundle, prices, cost, frozenset(), tree):
        return "part", "tree"
    return "told", cost


def is_tree(bundle, prices, cost, true, thing):
    """Whether it is a TREE behind what is true."""
    if type(thing) is not tuple or not thing or type(thing[0]) is not str:
        return False
    if thing[0] == "turn" and len(thing) == 4:
        name = thing[1]
        if not is_number(name, 1, bundle[0]) or {name, -name} & true:
            return False
        return all(is_tree(bundle, prices, cost, true | {k}, kid)
                   for k, kid in zip((name, -name), thing[2:]))
    if thing[0] != "bound" or len(thing) != 2 or not are_ascending(len(bundle[1]), thing[1]):
        return False
    if not all({-k for k in bundle[1][number]} <= true for number in thing[1]):
        return False
    return cost_of(prices, thing[1]) >= cost


def drawn_prices(chance, bundle):
    """PRICES of a BUNDLE of some sort: alike, 0 and 1, few, many, 0 and 1,000."""
    most = chance.choice((0, 1, 1, 3, 10, 1000))
    if chance.random() < 0.2:
        return (most,) * len(bundle[1])
    if chance.random() < 0.1:
        return tuple(chance.choice((0, 1000)) for _ in bundle[1])
    return tuple(chance.randint(0, most) for _ in bundle[1])


def random_rows(chance, names, many):
    """So many CLAUSES, perhaps alike."""
    return [chance.choice(all_rows(names)) for _ in range(many)]
