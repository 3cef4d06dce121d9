"""Which CLAUSES each whole SETTING does not meet."""

from idleclauses.codes import how_many


def unmet_rows(bundle):
    """The numbers of CLAUSES that a whole SETTING does not meet, as bits, for each; fewest first.

    LEAST LOTS are the least ones that have a number in common with each of these.
    """
    names, clauses = bundle
    rows = [(1 << len(clauses)) - 1]
    for name in range(1, names + 1):
        straight = _bits_without(clauses, name)
        contrary = _bits_without(clauses, -name)
        rows = sorted({row & kept for row in rows for kept in (straight, contrary)})
    return sorted(rows, key=how_many)


def _bits_without(clauses, literal):
    """The numbers of the CLAUSES that do not have a LITERAL, as bits."""
    return sum([1 << at for at, clause in enumerate(clauses) if literal not in clause])
