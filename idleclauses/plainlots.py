"""PUTTING CLAUSES by a NAME, rows of NAMES that end well, and LEAST LOTS that are plain."""

from idleclauses.bundles import need_bundle, need_numbers
from idleclauses.errors import BadNumber
from idleclauses.forms import MOST_NAMES, is_name, names_of, row_of
from idleclauses.leastlots import all_least
from idleclauses.matchings import more_by


def put(bundle, numbers, name):
    """The ascending tuple of the CLAUSES if those with these NUMBERS are put by a NAME."""
    left = _put(_picked(bundle, numbers), name)
    if left is None:
        raise BadNumber(name)
    return left


def _picked(bundle, numbers):
    """The ascending tuple of the CLAUSES with these NUMBERS."""
    need_numbers(bundle, numbers)
    _, clauses = bundle
    return tuple([clauses[number] for number in numbers])


def _put(clauses, thing):
    """The CLAUSES that there are if these are put by any thing, or None if this cannot be done."""
    if not is_name(MOST_NAMES, thing):
        return None
    straight = [clause for clause in clauses if thing in clause]
    contrary = [clause for clause in clauses if -thing in clause]
    if len(straight) != 1 or len(contrary) != 1:
        return None
    both = [literal for literal in straight[0] + contrary[0] if abs(literal) != thing]
    put_there = row_of(sorted(set(both)))
    if any([-literal in both for literal in both]) or put_there in clauses:
        return None
    others = [clause for clause in clauses if clause not in (straight[0], contrary[0])]
    return tuple(sorted([*others, put_there]))


def does_end_well(bundle, numbers, names):
    """Whether a row of NAMES, of anything, ends well for the CLAUSES with these NUMBERS."""
    clauses = _picked(bundle, numbers)
    if not isinstance(names, tuple):
        return False
    for name in names:
        clauses = _put(clauses, name)
        if clauses is None:
            return False
    return clauses == ((),)


def plain_row(bundle, numbers):
    """A row of NAMES that ends well for the CLAUSES with these NUMBERS, or None."""
    clauses = _picked(bundle, numbers)
    row = []
    # Whichever name is taken, what is left has a row that ends well, if there was one at all.
    while clauses != ((),):
        name, clauses = _first_put(clauses)
        if name is None:
            return None
        row.append(name)
    return tuple(row)


def _first_put(clauses):
    """The first name by which CLAUSES can be put, and what there is then; two times None else."""
    for name in names_of(clauses):
        left = _put(clauses, name)
        if left is not None:
            return name, left
    return None, None


def plain_lots(bundle):
    """The ascending tuple of all LEAST LOTS that are plain."""
    need_bundle(bundle)
    return tuple([lot for lot in all_least(bundle) if more_by(bundle, lot) == 1])
