"""BUNDLES of CLAUSES, and what becomes of them."""

from idleclauses.errors import BadBundle, BadClause, BadLot, BadNumber, BadNumbers, TooMany
from idleclauses.forms import (
    MOST_CLAUSES, gathered, is_index, is_literal_row, is_lot, is_names, is_numbers, is_pair,
)


def need_bundle(thing):
    """Itself, if it is a BUNDLE."""
    if not is_pair(thing):
        raise BadBundle("form")
    names, clauses = thing
    if not is_names(names):
        raise BadBundle("names")
    if not isinstance(clauses, tuple) or len(clauses) > MOST_CLAUSES:
        raise BadBundle("clauses")
    wrong = _first_wrong(names, clauses)
    if wrong is not None:
        raise BadBundle(wrong)
    return thing


def _first_wrong(names, clauses):
    """The number of the first thing that is no CLAUSE, or out of order, or None."""
    for at, clause in enumerate(clauses):
        if not is_literal_row(names, clause):
            return at
        if at > 0 and clause <= clauses[at - 1]:
            return at
    return None


def need_clause(bundle, thing):
    """Itself, if it is a CLAUSE of the names of the BUNDLE."""
    names, _ = need_bundle(bundle)
    if not is_literal_row(names, thing):
        raise BadClause(thing)
    return thing


def need_lot(bundle, thing):
    """Itself, if it is a LOT of the names of the BUNDLE."""
    names, _ = need_bundle(bundle)
    if not is_lot(names, thing):
        raise BadLot(thing)
    return thing


def need_number(bundle, thing):
    """Itself, if it is the number of a CLAUSE of the BUNDLE."""
    _, clauses = need_bundle(bundle)
    if not is_index(len(clauses), thing):
        raise BadNumber(thing)
    return thing


def need_numbers(bundle, thing):
    """Itself, if they are NUMBERS: an ascending tuple of numbers of CLAUSES of the BUNDLE."""
    _, clauses = need_bundle(bundle)
    if not is_numbers(len(clauses), thing):
        raise BadNumbers(thing)
    return thing


def crossed(bundle, lot):
    """The BUNDLE CROSSED by a LOT: its names struck out, and () left out."""
    return crossed_by(bundle, need_lot(bundle, lot))


def crossed_by(bundle, lot):
    """What is a BUNDLE CROSSED by what is a LOT."""
    names, clauses = bundle
    if lot == ():
        return names, tuple([clause for clause in clauses if clause != ()])
    shorter = [without_names(clause, lot) for clause in clauses]
    return gathered(names, [clause for clause in shorter if clause != ()])


def without_names(clause, lot):
    """The CLAUSE of the LITERALS whose NAMES are not in the LOT."""
    return tuple([literal for literal in clause if abs(literal) not in lot])


def without(bundle, number):
    """The BUNDLE without the CLAUSE of this number."""
    need_number(bundle, number)
    names, clauses = bundle
    return names, clauses[:number] + clauses[number + 1:]


def without_all(bundle, numbers):
    """The BUNDLE without the CLAUSES of these numbers."""
    need_numbers(bundle, numbers)
    names, clauses = bundle
    return names, tuple([clause for at, clause in enumerate(clauses) if at not in numbers])


def put_to(bundle, clause):
    """The BUNDLE with a further CLAUSE; itself if the CLAUSE is there."""
    need_clause(bundle, clause)
    names, clauses = bundle
    if clause in clauses:
        return bundle
    if len(clauses) >= MOST_CLAUSES:
        raise TooMany(MOST_CLAUSES)
    return gathered(names, [*clauses, clause])
