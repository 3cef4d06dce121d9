"""BUNDLES of CLAUSES, and what becomes of them."""

from idleclauses.errors import BadBundle, BadClause, BadLot, BadNumber, BadNumbers, TooMany
from idleclauses.forms import (
    MOST_CLAUSES, MOST_NAMES, gathered, is_index, is_literal_row, is_lot, is_numbers,
)


def need_bundle(thing):
    """Itself, if it is a BUNDLE."""
    if not isinstance(thing, tuple) or len(thing) != 2:
        raise BadBundle("form")
    names, clauses = thing
    if not isinstance(names, int) or names is True or not 1 <= names <= MOST_NAMES:
        raise BadBundle("names")
    if not isinstance(clauses, tuple) or len(clauses) > MOST_CLAUSES:
        raise BadBundle("clauses")
    wrong = _first_wrong(names, clauses)
    if wrong is not None:
        raise BadBundle(wrong)
    return thing


# Nearly each call of the package begins with this one. So it goes through the CLAUSES once, calls
# nothing for each of them, and takes those of two to four LITERALS apart, as most are. It compares
# squares, which ascend where NAMES do. They let a 0 pass that stands first, and a True that stands
# first or behind such a 0; so these two are asked for last. () counts as if it began with -8.
def _first_wrong(names, clauses):
    """The number of the first thing that is no CLAUSE, or out of order, or None."""
    least, before, most = -9, None, names * names
    left = iter(clauses)
    for clause in left:
        if not isinstance(clause, tuple):
            break
        size = len(clause)
        if size == 2:
            one, other = clause
            if not (isinstance(one, int) and isinstance(other, int) and one * one < other * other <= most):
                break
        elif size == 3:
            one, other, third = clause
            if not (isinstance(one, int) and isinstance(other, int) and isinstance(third, int)
                    and one * one < other * other < third * third <= most):
                break
        elif size == 4:
            one, other, third, fourth = clause
            if not (isinstance(one, int) and isinstance(other, int) and isinstance(third, int)
                    and isinstance(fourth, int)
                    and one * one < other * other < third * third < fourth * fourth <= most):
                break
        elif size > names:
            break
        else:
            one, last = clause[0] if clause else -8, 0
            for literal in clause:
                if not isinstance(literal, int) or last >= (last := literal * literal):
                    last = most + 1
                    break
            if last > most:
                break
        if one <= least and clause <= before or one is True or not one:
            break
        least, before = one, clause
    else:
        return None
    return len(clauses) - 1 - len([*left])


def need_clause(bundle, thing):
    """Itself, if it is a CLAUSE of the names of the BUNDLE."""
    names, _ = need_bundle(bundle)
    if not is_literal_row(names, thing):
        raise BadClause(thing)
    return thing


def need_lot(names, thing):
    """Itself, if it is a LOT of these NAMES."""
    if not is_lot(names, thing):
        raise BadLot(thing)
    return thing


def need_number(bundle, thing):
    """Itself, if it is the number of a CLAUSE of the BUNDLE."""
    _, clauses = need_bundle(bundle)
    if not is_index(len(clauses), thing):
        raise BadNumber(thing)
    return thing


def need_numbers(bundle, thing):
    """Itself, if they are NUMBERS: an ascending tuple of numbers of CLAUSES of the BUNDLE."""
    _, clauses = need_bundle(bundle)
    if not is_numbers(len(clauses), thing):
        raise BadNumbers(thing)
    return thing


def crossed(bundle, lot):
    """The BUNDLE CROSSED by a LOT: its names struck out, and () left out."""
    names, _ = need_bundle(bundle)
    return crossed_by(bundle, need_lot(names, lot))


def crossed_by(bundle, lot):
    """What is a BUNDLE CROSSED by what is a LOT."""
    names, clauses = bundle
    if lot == ():
        return names, tuple([clause for clause in clauses if clause != ()])
    shorter = [without_names(clause, lot) for clause in clauses]
    return gathered(names, [clause for clause in shorter if clause != ()])


def without_names(clause, lot):
    """The CLAUSE of the LITERALS whose NAMES are not in the LOT."""
    return tuple([literal for literal in clause if abs(literal) not in lot])


def without(bundle, number):
    """The BUNDLE without the CLAUSE of this number."""
    need_number(bundle, number)
    names, clauses = bundle
    return names, clauses[:number] + clauses[number + 1:]


def without_all(bundle, numbers):
    """The BUNDLE without the CLAUSES of these numbers."""
    need_numbers(bundle, numbers)
    names, clauses = bundle
    return names, tuple([clause for at, clause in enumerate(clauses) if at not in numbers])


def put_to(bundle, clause):
    """The BUNDLE with a further CLAUSE; itself if the CLAUSE is there."""
    need_clause(bundle, clause)
    names, clauses = bundle
    if clause in clauses:
        return bundle
    if len(clauses) >= MOST_CLAUSES:
        raise TooMany(MOST_CLAUSES)
    return gathered(names, [*clauses, clause])
