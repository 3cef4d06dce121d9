"""SETTINGS of names: what they touch, what they meet, and whether any meets all."""

from idleclauses.bundles import need_bundle
from idleclauses.codes import missed_by_clauses, whole_setting_beside
from idleclauses.errors import BadSetting
from idleclauses.forms import is_literal_row


def need_setting(bundle, thing):
    """Itself, if it is a SETTING of the names of the BUNDLE."""
    names, _ = need_bundle(bundle)
    if not is_literal_row(names, thing):
        raise BadSetting(thing)
    return thing


def touches(setting, clause):
    """Whether a SETTING touches a CLAUSE."""
    return any([literal in setting or -literal in setting for literal in clause])


def meets(setting, clause):
    """Whether a SETTING meets a CLAUSE."""
    return any([literal in setting for literal in clause])


def touched(bundle, setting):
    """The ascending numbers of the CLAUSES that a SETTING touches."""
    need_setting(bundle, setting)
    _, clauses = bundle
    return tuple([at for at, clause in enumerate(clauses) if touches(setting, clause)])


def met(bundle, setting):
    """The ascending numbers of the CLAUSES that a SETTING meets."""
    need_setting(bundle, setting)
    _, clauses = bundle
    return tuple([at for at, clause in enumerate(clauses) if meets(setting, clause)])


def is_tidy(bundle, setting):
    """Whether a SETTING meets each CLAUSE of the BUNDLE that it touches."""
    return touched(bundle, setting) == met(bundle, setting)


def meeting_setting(bundle):
    """A whole SETTING that meets all CLAUSES of the BUNDLE, or None."""
    names, clauses = need_bundle(bundle)
    return whole_setting_beside(names, missed_by_clauses(clauses))


def is_at_odds(bundle):
    """Whether no SETTING meets all CLAUSES of the BUNDLE."""
    return meeting_setting(bundle) is None
