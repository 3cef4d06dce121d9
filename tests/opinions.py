"""Second opinions, told as plainly as the document tells it, and papers with something otherwise.

None of this uses the program. A verdict is ("told", RESULT) or ("part", PART), which is refused.
"""

import functools

from tests.helper import all_lots, all_rows, does_meet, does_touch, whole_settings


def is_number(thing, low, high):
    """Whether it is an integer from low to high, True and False not being integers."""
    return type(thing) is int and low <= thing <= high


def is_row(names, thing):
    """Whether it is a CLAUSE, or a SETTING, of so many names."""
    if type(thing) is not tuple or not all(is_number(k, -names, names) for k in thing):
        return False
    found = [abs(k) for k in thing]
    return 0 not in found and found == sorted(set(found))


def is_lot_of(names, thing):
    """Whether it is a LOT of so many names."""
    return is_row(names, thing) and all(k > 0 for k in thing)


def names_in(rows):
    """The set of the names in CLAUSES or SETTINGS."""
    return {abs(k) for row in rows for k in row}


def clause_by(one, other, name):
    """The CLAUSE of two by a name, or None."""
    if name not in one or -name not in other:
        return None
    if {-k for k in one if k != name} & set(other):
        return None
    return tuple(sorted((set(one) | set(other)) - {name, -name}, key=abs))


def step_clause(bundle, ahead, step):
    """The CLAUSE of a STEP behind those with the CLAUSES ahead, or None of what is no STEP."""
    names, clauses = bundle
    if type(step) is not tuple or not step or type(step[0]) is not str:
        return None
    if step[0] == "clause" and len(step) == 2 and is_number(step[1], 0, len(clauses) - 1):
        return clauses[step[1]]
    if step[0] == "by" and len(step) == 4 and is_number(step[3], 1, names):
        if all(is_number(k, 0, len(ahead) - 1) for k in step[1:3]):
            return clause_by(ahead[step[1]], ahead[step[2]], step[3])
    return None


def chain_read(bundle, thing):
    """The pair of the list of CLAUSES and None; or of None and what BadChain has."""
    if type(thing) is not tuple or not 1 <= len(thing) <= 2000:
        return None, None
    found = []
    for at, step in enumerate(thing):
        clause = step_clause(bundle, found, step)
        if clause is None:
            return None, at
        found.append(clause)
    return found, None


def uses_of(chain):
    """The set of the numbers of the CLAUSES that a CHAIN uses."""
    behind, seen = [len(chain) - 1], set()
    while behind:
        at = behind.pop()
        if at not in seen:
            seen.add(at)
            behind += chain[at][1:3] if chain[at][0] == "by" else ()
    return {chain[at][1] for at in seen if chain[at][0] == "clause"}


def is_refuted_by(bundle, thing):
    """Whether it is a REFUTATION."""
    found, _ = chain_read(bundle, thing)
    return found is not None and found[-1] == ()


def is_tidy_setting(bundle, setting):
    """Whether a SETTING is TIDY."""
    return all(does_meet(setting, row) or not does_touch(setting, row) for row in bundle[1])


@functools.lru_cache(maxsize=4000)
def tidy_settings(bundle):
    """All TIDY SETTINGS, ascending."""
    return sorted(row for row in all_rows(bundle[0]) if is_tidy_setting(bundle, row))


@functools.lru_cache(maxsize=4000)
def used_numbers(bundle):
    """The numbers of the CLAUSES that no TIDY SETTING touches."""
    found = tidy_settings(bundle)
    return tuple(k for k, row in enumerate(bundle[1])
                 if not any(does_touch(setting, row) for setting in found))


def used_by_chains(bundle):
    """The numbers of the CLAUSES that some REFUTATION uses: all that CHAINS lead to is tried."""
    return tuple(k for k in range(len(bundle[1])) if ((), True) in all_led(bundle, k))


def all_led(bundle, number):
    """All pairs of a CLAUSE to which some CHAIN leads, and whether it uses this one."""
    names, clauses = bundle
    found = {(row, k == number) for k, row in enumerate(clauses)}
    newest = list(found)
    while newest:
        one, uses_one = newest.pop()
        for other, uses_other in list(found):
            for name in range(1, names + 1):
                for row in (clause_by(one, other, name), clause_by(other, one, name)):
                    pair = (row, uses_one or uses_other)
                    if row is not None and pair not in found:
                        found.add(pair)
                        newest.append(pair)
    return found


def is_met_by_some(bundle):
    """Whether some whole SETTING meets all CLAUSES."""
    return any(all(does_meet(setting, row) for row in bundle[1])
               for setting in whole_settings(bundle[0]))


def crossed_by(bundle, lot):
    """The BUNDLE CROSSED by names."""
    left = {tuple(k for k in row if abs(k) not in lot) for row in bundle[1]} - {()}
    return bundle[0], tuple(sorted(left))


def how_many_up(lot, clause):
    """How many LITERALS of a CLAUSE are UP by a READING."""
    return sum(k > 0 and k not in lot or k < 0 and -k in lot for k in clause)


def plain_readings(bundle):
    """All PLAIN READINGS, ascending."""
    return sorted(lot for lot in all_lots(bundle[0])
                  if all(how_many_up(lot, row) < 2 for row in bundle[1]))


def how_crowded(bundle, lot):
    """How many CLAUSES have two LITERALS UP or more."""
    return sum(how_many_up(lot, row) >= 2 for row in bundle[1])


def is_worded(words, thing):
    """Whether it is a pair with one of these words first."""
    return type(thing) is tuple and len(thing) == 2 and type(thing[0]) is str and thing[0] in words


def used_verdict(bundle, number, paper):
    """What check_used has to do."""
    if not is_worded(("used", "tidy"), paper):
        return "part", "form"
    word, thing = paper
    if word == "used":
        holds = is_refuted_by(bundle, thing) and number in uses_of(thing)
    else:
        holds = (is_row(bundle[0], thing) and is_tidy_setting(bundle, thing)
                 and does_touch(thing, bundle[1][number]))
    return ("told", word) if holds else ("part", word)


def kernel_verdict(bundle, paper):
    """What check_kernel has to do."""
    if type(paper) is not tuple or len(paper) != 2:
        return "part", "form"
    layers, setting = paper
    if type(layers) is not tuple:
        return "part", "layers"
    lot = set()
    for chain in layers:
        left = crossed_by(bundle, lot)
        if not is_refuted_by(left, chain):
            return "part", "layers"
        lot |= names_in([left[1][k] for k in uses_of(chain)])
    beside = [row for row in bundle[1] if names_in([row]) - lot]
    if not is_row(bundle[0], setting) or names_in([setting]) & lot:
        return "part", "setting"
    if not all(does_meet(setting, row) for row in beside):
        return "part", "setting"
    return "told", tuple(k for k, row in enumerate(bundle[1]) if row not in beside)


def reading_verdict(bundle, paper):
    """What check_reading has to do."""
    if not is_worded(("plain", "ring"), paper):
        return "part", "form"
    word, thing = paper
    if word == "plain":
        holds = is_lot_of(bundle[0], thing) and how_crowded(bundle, thing) == 0
    else:
        holds = is_ring_of(bundle, thing)
    return ("told", word) if holds else ("part", word)


def is_ring_of(bundle, thing):
    """Whether it is a RING."""
    names, clauses = bundle
    if type(thing) is not tuple or len(thing) < 2:
        return False
    for pair in thing:
        if type(pair) is not tuple or len(pair) != 2 or not is_row(names, pair[:1]):
            return False
        if not is_number(pair[1], 0, len(clauses) - 1):
            return False
    for at, (literal, number) in enumerate(thing):
        other = -thing[(at + 1) % len(thing)][0]
        if literal == other or not {literal, other} <= set(clauses[number]):
            return False
    found = {literal for literal, _ in thing}
    return any(-literal in found for literal in found)


def changed(thing):
    """A nested tuple with something otherwise, left out or put in at one place, of any depth."""
    yield from instead_of(thing)
    if type(thing) is not tuple:
        return
    for at, item in enumerate(thing):
        for other in changed(item):
            yield thing[:at] + (other,) + thing[at + 1:]
    yield from put_in_or_left_out(thing)


def instead_of(thing):
    """Things in the place of another one."""
    yield from (None, True, False, 0, 1, -1, 8, 10 ** 59, "", "by", "clause", b"by", (), [], {}, (0,))
    yield [thing]
    yield (thing,)
    yield (thing, thing)
    if type(thing) is int:
        yield from (thing + 1, thing - 1, -thing, str(thing))
    if type(thing) is str:
        yield from (thing + " ", thing.upper(), thing.encode(), "used", "tidy", "plain", "ring")
        yield from ("halves", "clash", "met", "falls", "least", "spare")
    if type(thing) is tuple:
        yield from (list(thing), thing[::-1], dict(enumerate(thing)), str(thing))


def put_in_or_left_out(thing):
    """A tuple with one thing more, or less, or two in the places of one another."""
    for at in range(len(thing)):
        yield thing[:at] + thing[at + 1:]
        yield thing[:at]
        yield thing[:at] + thing[at:at + 1] + thing[at:]
        yield thing[:at] + thing[at + 1:at + 2] + thing[at:at + 1] + thing[at + 2:]
    for at in range(len(thing) + 1):
        for further in (None, 0, 1, -1, (), ((),), "by"):
            yield thing[:at] + (further,) + thing[at:]
    yield thing + thing
