"""SETTINGS of names: what they touch, what they meet, and whether any meets all."""

from idleclauses.bundles import need_bundle
from idleclauses.errors import BadSetting
from idleclauses.forms import is_literal_row


def need_setting(bundle, thing):
    """Itself, if it is a SETTING of the names of the BUNDLE."""
    names, _ = need_bundle(bundle)
    if not is_literal_row(names, thing):
        raise BadSetting(thing)
    return thing


def touches(setting, clause):
    """Whether a SETTING touches a CLAUSE."""
    return any([literal in setting or -literal in setting for literal in clause])


def meets(setting, clause):
    """Whether a SETTING meets a CLAUSE."""
    return any([literal in setting for literal in clause])


def touched(bundle, setting):
    """The ascending numbers of the CLAUSES that a SETTING touches."""
    need_setting(bundle, setting)
    _, clauses = bundle
    return tuple([at for at, clause in enumerate(clauses) if touches(setting, clause)])


def met(bundle, setting):
    """The ascending numbers of the CLAUSES that a SETTING meets."""
    need_setting(bundle, setting)
    _, clauses = bundle
    return tuple([at for at, clause in enumerate(clauses) if meets(setting, clause)])


def is_tidy(bundle, setting):
    """Whether a SETTING meets each CLAUSE of the BUNDLE that it touches."""
    return touched(bundle, setting) == met(bundle, setting)


def meeting_setting(bundle):
    """A whole SETTING that meets all CLAUSES of the BUNDLE, or None."""
    names, clauses = need_bundle(bundle)
    missed = bits_together([missed_codes(names, clause) for clause in clauses])
    for code in range(1 << names):
        if not missed >> code & 1:
            return whole_setting(names, code)
    return None


def missed_codes(names, clause):
    """The codes of the whole SETTINGS that do not meet a CLAUSE, as the bits of an integer."""
    bits = 1
    for name in range(1, names + 1):
        # The codes of the names ahead are all less than this one, and with it this name is true.
        further = 1 << name - 1
        if -name in clause:
            bits = bits << further
        elif name not in clause:
            bits = bits | bits << further
    return bits


def bits_together(numbers):
    """The integer that has all bits of these ones."""
    bits = 0
    for number in numbers:
        bits = bits | number
    return bits


def whole_setting(names, code):
    """The whole SETTING of a code: name 1 is true if its lowest bit is 1, and so on."""
    return tuple([name if code >> name - 1 & 1 else -name for name in range(1, names + 1)])


def is_at_odds(bundle):
    """Whether no SETTING meets all CLAUSES of the BUNDLE."""
    return meeting_setting(bundle) is None
