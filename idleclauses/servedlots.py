"""SERVED LOTS of names, the greatest one, the RESIDUE, and the PAPER on it."""

from idleclauses.bundles import need_bundle, need_lot
from idleclauses.errors import BadPaper
from idleclauses.forms import is_index, is_lot
from idleclauses.matchings import is_matching, matching_of
from idleclauses.pairings import are_all_paired, paired, spread


def is_served(bundle, lot):
    """Whether a LOT of names is SERVED."""
    names, clauses = need_bundle(bundle)
    need_lot(names, lot)
    parts = [[literal for literal in clause if abs(literal) in lot] for clause in clauses]
    return are_all_paired([part for part in parts if part])


def greatest_served(bundle):
    """The greatest SERVED LOT: the names to which nothing spreads."""
    names, clauses = need_bundle(bundle)
    _, sources = spread(clauses, paired(clauses))
    return _names_beside(names, sources)


def _names_beside(names, sources):
    """The LOT of the names that are not in sources."""
    return tuple([name for name in range(1, names + 1) if name not in sources])


def residue(bundle):
    """The RESIDUE: the ascending numbers of the CLAUSES without a name of the greatest one."""
    _, clauses = need_bundle(bundle)
    numbers, _ = spread(clauses, paired(clauses))
    return numbers


def served_paper(bundle):
    """The PAPER on the greatest SERVED LOT."""
    names, clauses = need_bundle(bundle)
    holders = paired(clauses)
    _, sources = spread(clauses, holders)
    lot = _names_beside(names, sources)
    serving = {name: number for name, number in holders.items() if name in lot}
    doubles = [_double(holders, sources, name) for name in sorted(sources)]
    return lot, matching_of(clauses, serving), tuple(doubles)


def _double(holders, sources, name):
    """Numbers of CLAUSES, one for each name in sources, ascending, and one more for this name.

    The CLAUSE from which a name was reached is given to it in the place of that which holds it,
    and so on for the name that this one held, till a CLAUSE held none.
    """
    given = {other: holders[other] for other in sources}
    held = name
    while held is not None:
        given[held] = sources[held]
        held = _name_held(holders, sources[held])
    return tuple([given[other] for other in sorted(sources)] + [holders[name]])


def _name_held(holders, number):
    """The name that a CLAUSE holds, or None."""
    for name, holder in holders.items():
        if holder == number:
            return name
    return None


def check_served(bundle, paper):
    """The greatest SERVED LOT, by a PAPER on it that holds."""
    names, _ = need_bundle(bundle)
    if not isinstance(paper, tuple) or len(paper) != 3:
        raise BadPaper("form")
    lot, matching, doubles = paper
    if not is_lot(names, lot):
        raise BadPaper("lot")
    if not _does_serve(bundle, lot, matching):
        raise BadPaper("matching")
    if not _are_doubles(bundle, lot, doubles):
        raise BadPaper("doubles")
    return lot


def _has_name_of(clause, lot):
    """Whether a CLAUSE has a name of a LOT."""
    return any([abs(literal) in lot for literal in clause])


def _does_serve(bundle, lot, thing):
    """Whether any thing is a MATCHING of just the CLAUSES with a name of the LOT, by its names."""
    _, clauses = bundle
    if not is_matching(bundle, thing):
        return False
    wanted = [number for number, clause in enumerate(clauses) if _has_name_of(clause, lot)]
    if [number for number, _ in thing] != wanted:
        return False
    return all([abs(literal) in lot for _, literal in thing])


def _are_doubles(bundle, lot, thing):
    """Whether any thing is DOUBLES for the names that are not in the LOT."""
    names, _ = bundle
    others = [name for name in range(1, names + 1) if name not in lot]
    if not isinstance(thing, tuple) or len(thing) != len(others):
        return False
    return all([_is_double(bundle, lot, [*others, name], row)
                for name, row in zip(others, thing)])


def _is_double(bundle, lot, names, thing):
    """Whether any thing is a tuple of unlike numbers of CLAUSES beside a LOT, one for each name."""
    _, clauses = bundle
    if not isinstance(thing, tuple) or len(thing) != len(names):
        return False
    if not all([is_index(len(clauses), number) for number in thing]):
        return False
    if len(set(thing)) != len(thing):
        return False
    picked = [clauses[number] for number in thing]
    if any([_has_name_of(clause, lot) for clause in picked]):
        return False
    return all([name in clause or -name in clause for name, clause in zip(names, picked)])
