"""TIDY SETTINGS: all of them, the least ones, the greatest one, and what they strike."""

from idleclauses.bundles import need_bundle, need_number
from idleclauses.errors import BadTidy
from idleclauses.forms import is_literal_row, row_of
from idleclauses.layers import Layers
from idleclauses.settings import is_tidy, meets, need_setting

MOST_SETTINGS = 20


def all_tidy(bundle):
    """The ascending tuple of all TIDY SETTINGS."""
    need_bundle(bundle)
    return tuple(sorted([setting for setting, _ in _tidy_rows(bundle)]))


def _tidy_rows(bundle):
    """Pairs of each TIDY SETTING and the numbers of the CLAUSES it meets, as bits of an integer."""
    names, clauses = bundle
    rows = [((), 0, 0)]
    for name in range(1, names + 1):
        straight = _bits_with(clauses, name)
        contrary = _bits_with(clauses, -name)
        rows = (rows + [_further(row, name, straight, contrary) for row in rows]
                + [_further(row, -name, contrary, straight) for row in rows])
    return [(setting, met_bits) for setting, met_bits, touched_bits in rows
            if met_bits == touched_bits]


def _further(row, literal, having, against):
    """A SETTING with a further LITERAL, and the bits of the CLAUSES that it meets, and touches."""
    setting, met_bits, touched_bits = row
    return (*setting, literal), met_bits | having, touched_bits | having | against


def _bits_with(clauses, literal):
    """The numbers of the CLAUSES that have a LITERAL, as bits of an integer."""
    return sum([1 << at for at, clause in enumerate(clauses) if literal in clause])


def least_tidy(bundle, number):
    """All TIDY SETTINGS that touch a CLAUSE with as few LITERALS as any such one, ascending."""
    need_number(bundle, number)
    found = [setting for setting, met_bits in _tidy_rows(bundle) if met_bits >> number & 1]
    least = min([len(setting) for setting in found], default=0)
    return tuple(sorted([setting for setting in found if len(setting) == least]))


def greatest_tidy(bundle):
    """A TIDY SETTING that meets all CLAUSES that are not USED, and touches no other ones."""
    names, clauses = need_bundle(bundle)
    return Layers(clauses).rest_setting(names)


def followed_by(bundle, one, other):
    """One SETTING with the LITERALS of the other one that have further NAMES."""
    need_setting(bundle, one)
    need_setting(bundle, other)
    further = [literal for literal in other if literal not in one and -literal not in one]
    return row_of([*one, *further])


def struck_by(bundle, setting):
    """The BUNDLE without the CLAUSES that a SETTING meets."""
    need_setting(bundle, setting)
    names, clauses = bundle
    return names, tuple([clause for clause in clauses if not meets(setting, clause)])


def peeled(bundle, settings):
    """The BUNDLE that is left if TIDY SETTINGS strike it, each one what is left by then."""
    names, _ = need_bundle(bundle)
    if not isinstance(settings, tuple) or len(settings) > MOST_SETTINGS:
        raise BadTidy(None)
    left = bundle
    for at, setting in enumerate(settings):
        if not is_literal_row(names, setting) or not is_tidy(left, setting):
            raise BadTidy(at)
        left = struck_by(left, setting)
    return left
