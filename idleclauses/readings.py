"""READINGS: names read the other way, so that CLAUSES become plain, and the PAPERS on it."""

from idleclauses.bundles import need_bundle, need_lot
from idleclauses.codes import ALL_CODES, FALSE_CODES, bits_of, contrary_bits, together
from idleclauses.errors import BadPaper
from idleclauses.forms import gathered, is_index, is_literal, is_lot, is_pair, is_worded_pair
from idleclauses.ways import shortest_way


def read_by(bundle, lot):
    """The BUNDLE READ by a READING: names of the LOT are turned."""
    names, clauses = need_bundle(bundle)
    need_lot(names, lot)
    return gathered(names, [_turned(clause, lot) for clause in clauses])


def _turned(clause, lot):
    """The CLAUSE with the contrary LITERALS of the turned names."""
    return tuple([-literal if abs(literal) in lot else literal for literal in clause])


def is_plain(bundle, lot):
    """Whether each CLAUSE has at most one LITERAL that is UP by a READING."""
    names, clauses = need_bundle(bundle)
    need_lot(names, lot)
    return are_plain(clauses, lot)


def are_plain(clauses, lot):
    """Whether each of these CLAUSES has at most one LITERAL that is UP by a READING."""
    turned = bits_of(lot)
    # The bits of all names that are not turned, and of the contrary LITERALS of those that are.
    ups = 127 & ~turned | contrary_bits(turned)
    rows = [bits_of(clause) & ups for clause in clauses]
    # One less clears the lowest bit, so that something is left of two bits or more.
    return all([row & row - 1 == 0 for row in rows])


def _readings_with(names, codes):
    """The ascending tuple of the READINGS of so many names that have these codes.

    A READING has the code of the whole SETTING by which just the turned names are true.
    """
    lots = [()]
    for name in range(1, names + 1):
        lots = lots + [(*lot, name) for lot in lots]
    return tuple(sorted([lot for code, lot in enumerate(lots) if codes >> code & 1]))


def _crowded_codes(clause):
    """The codes of the READINGS by which a CLAUSE has two LITERALS UP or more, as bits."""
    one = more = 0
    for literal in clause:
        # A LITERAL is UP by a READING exactly if it is false by the SETTING of the same code.
        up = FALSE_CODES[literal]
        more |= one & up
        one |= up
    return more


def _rarest_codes(parts):
    """The codes that are among the fewest of some bits, as bits."""
    # How often each code is among them, in binary digits, the lowest ones first.
    digits = [0, 0, 0, 0, 0]
    for bits in parts:
        carried = bits
        for at, digit in enumerate(list(digits)):
            digits[at] = digit ^ carried
            carried &= digit
    rarest = ALL_CODES
    for digit in reversed(digits):
        if rarest & ~digit != 0:
            rarest &= ~digit
    return rarest


def plain_reading(bundle):
    """The first one of all PLAIN READINGS, None without one."""
    need_bundle(bundle)
    return _first_plain(bundle)


def _first_plain(bundle):
    """The first one of all PLAIN READINGS of what is a BUNDLE, None without one."""
    readings = _plain_readings(bundle)
    if readings == ():
        return None
    return readings[0]


def all_plain(bundle):
    """The ascending tuple of all PLAIN READINGS."""
    need_bundle(bundle)
    return _plain_readings(bundle)


def _plain_readings(bundle):
    """The ascending tuple of all PLAIN READINGS of what is a BUNDLE."""
    names, clauses = bundle
    crowded = together([_crowded_codes(clause) for clause in clauses])
    return _readings_with(names, ALL_CODES & ~crowded)


def nearest_reading(bundle):
    """The first one of the READINGS by which the fewest CLAUSES have two LITERALS UP or more."""
    names, clauses = need_bundle(bundle)
    rarest = _rarest_codes([_crowded_codes(clause) for clause in clauses])
    return _readings_with(names, rarest)[0]


def reading_paper(bundle):
    """The PAPER on whether there is a PLAIN READING."""
    need_bundle(bundle)
    lot = _first_plain(bundle)
    if lot is None:
        return "ring", _ring(bundle)
    return "plain", lot


def _ring(bundle):
    """A RING of a BUNDLE that has no PLAIN READING.

    If a LITERAL is UP, the contrary ones of all others of its CLAUSE have to be. Without a PLAIN
    READING some LITERAL so leads to its contrary one, and this back to it.
    """
    names, clauses = bundle
    for name in range(1, names + 1):
        there = shortest_way(clauses, name, -name)
        back = shortest_way(clauses, -name, name)
        if there is not None and back is not None:
            return there + back
    return None


def check_reading(bundle, paper):
    """The first word of a PAPER on whether there is a PLAIN READING, if it holds."""
    names, clauses = need_bundle(bundle)
    if not is_worded_pair(("plain", "ring"), paper):
        raise BadPaper("form")
    word, thing = paper
    if word == "plain" and not (is_lot(names, thing) and are_plain(clauses, thing)):
        raise BadPaper("plain")
    if word == "ring" and not _is_ring(bundle, thing):
        raise BadPaper("ring")
    return word


def _is_ring(bundle, thing):
    """Whether any thing is a RING."""
    if not isinstance(thing, tuple) or len(thing) < 2:
        return False
    if not all([_is_ring_pair(bundle, pair) for pair in thing]):
        return False
    followers = [*thing[1:], thing[0]]
    if not all([_leads_on(bundle, pair, after) for pair, after in zip(thing, followers)]):
        return False
    literals = [literal for literal, _ in thing]
    return any([-literal in literals for literal in literals])


def _is_ring_pair(bundle, thing):
    """Whether any thing is a pair of a LITERAL and the number of a CLAUSE."""
    names, clauses = bundle
    return is_pair(thing) and is_literal(names, thing[0]) and is_index(len(clauses), thing[1])


def _leads_on(bundle, pair, after):
    """Whether a pair's CLAUSE has its LITERAL, and another one, contrary to that of the next."""
    _, clauses = bundle
    literal, number = pair
    other = -after[0]
    return literal != other and literal in clauses[number] and other in clauses[number]
