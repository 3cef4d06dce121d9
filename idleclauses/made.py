"""BUNDLES made of other ones: set, merged, and two put together in three ways."""

from idleclauses.bundles import need_bundle, without_names
from idleclauses.codes import bits_of, contrary_bits, row_of_bits
from idleclauses.errors import BadNumber, TooMany
from idleclauses.forms import MOST_CLAUSES, MOST_NAMES, gathered, is_name, names_of, row_of
from idleclauses.settings import meets, need_setting


def set_to(bundle, setting):
    """The CLAUSES that a SETTING does not meet, without its contrary LITERALS."""
    need_setting(bundle, setting)
    names, clauses = bundle
    lot = names_of([setting])
    left = [clause for clause in clauses if not meets(setting, clause)]
    return gathered(names, [without_names(clause, lot) for clause in left])


def merged(bundle, one, other):
    """The BUNDLE in which the greater one of two names becomes the other one."""
    names, clauses = need_bundle(bundle)
    if not is_name(names, one):
        raise BadNumber(one)
    if not is_name(names, other) or other == one:
        raise BadNumber(other)
    low, high = min(one, other), max(one, other)
    rows = [[_moved(literal, low, high) for literal in clause] for clause in clauses]
    whole = [row for row in rows if not any([-literal in row for literal in row])]
    return gathered(names - 1, [row_of(sorted(set(row))) for row in whole])


def _moved(literal, low, high):
    """What becomes of a LITERAL if the name high becomes low, and each greater one is one less."""
    name = abs(literal)
    if name == high:
        name = low
    elif name > high:
        name -= 1
    return name if literal > 0 else -name


def both_of(bundle, other):
    """The CLAUSES of both BUNDLES."""
    names, clauses = need_bundle(bundle)
    other_names, other_clauses = need_bundle(other)
    return _within_bounds(gathered(max(names, other_names), clauses + other_clauses))


def beside_of(bundle, other):
    """The CLAUSES of both BUNDLES, the names of the other one behind those of the first one."""
    names, clauses = need_bundle(bundle)
    other_names, other_clauses = need_bundle(other)
    behind = [tuple([literal + names if literal > 0 else literal - names for literal in clause])
              for clause in other_clauses]
    return _within_bounds(gathered(names + other_names, [*clauses, *behind]))


def either_of(bundle, other):
    """The CLAUSES of the LITERALS of a CLAUSE of each BUNDLE, where no two are contrary."""
    names, clauses = need_bundle(bundle)
    other_names, other_clauses = need_bundle(other)
    rows = [bits_of(clause) for clause in clauses]
    other_rows = [bits_of(clause) for clause in other_clauses]
    unions = {row | other_row: True for row in rows for other_row in other_rows}
    whole = [bits for bits in unions if bits & contrary_bits(bits) == 0]
    return _within_bounds(gathered(max(names, other_names), [row_of_bits(bits) for bits in whole]))


def _within_bounds(bundle):
    """Itself, what would be a BUNDLE, if it has not too many names, nor CLAUSES."""
    names, clauses = bundle
    if names > MOST_NAMES:
        raise TooMany(MOST_NAMES)
    if len(clauses) > MOST_CLAUSES:
        raise TooMany(MOST_CLAUSES)
    return bundle
