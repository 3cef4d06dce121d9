"""READINGS: names read the other way, so that CLAUSES become plain, and the PAPERS on it."""

from idleclauses.bundles import need_bundle, need_lot
from idleclauses.errors import BadPaper
from idleclauses.forms import gathered, is_index, is_literal, is_lot, is_pair, is_worded_pair
from idleclauses.ways import shortest_way


def read_by(bundle, lot):
    """The BUNDLE READ by a READING: names of the LOT are turned."""
    need_lot(bundle, lot)
    names, clauses = bundle
    return gathered(names, [_turned(clause, lot) for clause in clauses])


def _turned(clause, lot):
    """The CLAUSE with the contrary LITERALS of the turned names."""
    return tuple([-literal if abs(literal) in lot else literal for literal in clause])


def is_plain(bundle, lot):
    """Whether each CLAUSE has at most one LITERAL that is UP by a READING."""
    need_lot(bundle, lot)
    return _crowded(_signs_of(bundle), lot) == 0


def _signs_of(bundle):
    """For each CLAUSE its names and its contrary LITERALS, as bits of two integers."""
    _, clauses = bundle
    return [(_name_bits([literal for literal in clause if literal > 0]),
             _name_bits([-literal for literal in clause if literal < 0])) for clause in clauses]


def _name_bits(lot):
    """The names as bits of an integer."""
    return sum([1 << name for name in lot])


def _crowded(signs, lot):
    """How many CLAUSES have two LITERALS UP or more."""
    turned = _name_bits(lot)
    ups = [straight & ~turned | contrary & turned for straight, contrary in signs]
    # One less clears the lowest bit, so that something is left of two bits or more.
    return len([bits for bits in ups if bits & bits - 1])


def _all_readings(names):
    """All READINGS, ascending."""
    lots = [()]
    for name in range(1, names + 1):
        lots = lots + [(*lot, name) for lot in lots]
    return sorted(lots)


def plain_reading(bundle):
    """The first one of all PLAIN READINGS, None without one."""
    readings = all_plain(bundle)
    if readings == ():
        return None
    return readings[0]


def all_plain(bundle):
    """The ascending tuple of all PLAIN READINGS."""
    names, _ = need_bundle(bundle)
    signs = _signs_of(bundle)
    return tuple([lot for lot in _all_readings(names) if _crowded(signs, lot) == 0])


def nearest_reading(bundle):
    """The first one of the READINGS by which the fewest CLAUSES have two LITERALS UP or more."""
    names, _ = need_bundle(bundle)
    signs = _signs_of(bundle)
    return min(_all_readings(names), key=lambda lot: _crowded(signs, lot))


def reading_paper(bundle):
    """The PAPER on whether there is a PLAIN READING."""
    lot = plain_reading(bundle)
    if lot is None:
        return "ring", _ring(bundle)
    return "plain", lot


def _ring(bundle):
    """A RING of a BUNDLE that has no PLAIN READING.

    If a LITERAL is UP, the contrary ones of all others of its CLAUSE have to be. Without a PLAIN
    READING some LITERAL so leads to its contrary one, and this back to it.
    """
    names, clauses = bundle
    for name in range(1, names + 1):
        there = shortest_way(clauses, name, -name)
        back = shortest_way(clauses, -name, name)
        if there is not None and back is not None:
            return there + back
    return None


def check_reading(bundle, paper):
    """The first word of a PAPER on whether there is a PLAIN READING, if it holds."""
    names, _ = need_bundle(bundle)
    if not is_worded_pair(("plain", "ring"), paper):
        raise BadPaper("form")
    word, thing = paper
    if word == "plain" and not (is_lot(names, thing) and is_plain(bundle, thing)):
        raise BadPaper("plain")
    if word == "ring" and not _is_ring(bundle, thing):
        raise BadPaper("ring")
    return word


def _is_ring(bundle, thing):
    """Whether any thing is a RING."""
    if not isinstance(thing, tuple) or len(thing) < 2:
        return False
    if not all([_is_ring_pair(bundle, pair) for pair in thing]):
        return False
    followers = [*thing[1:], thing[0]]
    if not all([_leads_on(bundle, pair, after) for pair, after in zip(thing, followers)]):
        return False
    literals = [literal for literal, _ in thing]
    return any([-literal in literals for literal in literals])


def _is_ring_pair(bundle, thing):
    """Whether any thing is a pair of a LITERAL and the number of a CLAUSE."""
    names, clauses = bundle
    return is_pair(thing) and is_literal(names, thing[0]) and is_index(len(clauses), thing[1])


def _leads_on(bundle, pair, after):
    """Whether a pair's CLAUSE has its LITERAL, and another one, contrary to that of the next."""
    _, clauses = bundle
    literal, number = pair
    other = -after[0]
    return literal != other and literal in clauses[number] and other in clauses[number]
