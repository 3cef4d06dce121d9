"""Plain following of SETTINGS, and what it tells of whether a BUNDLE is at odds."""

from idleclauses.bundles import need_bundle
from idleclauses.codes import (
    LITERAL_BITS, bits_of, contrary_bits, missed_by_clauses, row_of_bits, whole_setting_beside,
)
from idleclauses.errors import BadLot, BadPaper, BadSetting, Unweighed
from idleclauses.forms import is_integer, is_literal_row, is_lot, is_name, is_worded_pair
from idleclauses.halves import clashing_hefts
from idleclauses.readings import are_plain
from idleclauses.settings import meets


def followed(bundle, setting):
    """The SETTING that is left when one is followed, None if it falls."""
    names, clauses = need_bundle(bundle)
    if not is_literal_row(names, setting):
        raise BadSetting(setting)
    true = _followed_bits(_rows(clauses), bits_of(setting))
    if true is None:
        return None
    return row_of_bits(true)


def _rows(clauses):
    """The bits of each CLAUSE."""
    return [bits_of(clause) for clause in clauses]


def _followed_bits(rows, true):
    """The bits of the SETTING that is left when one with these bits is followed, or None."""
    false = contrary_bits(true)
    going = True
    while going:
        going = False
        for row in rows:
            if row & true == 0:
                left = row & ~false
                if left == 0:
                    return None
                # One less clears the lowest bit, so that something is left of two bits or more.
                if left & left - 1 == 0:
                    true |= left
                    false |= contrary_bits(left)
                    going = True
    return true


def answer_paper(bundle):
    """The PAPER on whether a BUNDLE with HALVES is at odds, by plain following."""
    names, clauses = need_bundle(bundle)
    hefts = clashing_hefts(clauses)
    if hefts is not None:
        raise Unweighed(hefts)
    setting = whole_setting_beside(names, missed_by_clauses(clauses))
    if setting is not None:
        return "met", setting
    rows = _rows(clauses)
    # With HALVES some name falls either way, or () does.
    for number in range(names):
        if _does_fall(rows, number):
            return "falls", number
    return "falls", names


def _does_fall(rows, number):
    """Whether () falls, for 0, or a name and its contrary one alone do, for a name."""
    if number == 0:
        return _followed_bits(rows, 0) is None
    return (_followed_bits(rows, LITERAL_BITS[number]) is None
            and _followed_bits(rows, LITERAL_BITS[-number]) is None)


def check_answer(bundle, paper):
    """The first word of a PAPER on whether the BUNDLE is at odds, if it holds."""
    names, clauses = need_bundle(bundle)
    if not is_worded_pair(("met", "falls"), paper):
        raise BadPaper("form")
    word, thing = paper
    if word == "met" and not _is_whole_answer(bundle, thing):
        raise BadPaper("met")
    if word == "falls":
        if not is_integer(thing) or not (thing == 0 or is_name(names, thing)):
            raise BadPaper("falls")
        if not _does_fall(_rows(clauses), thing):
            raise BadPaper("falls")
    return word


def _is_whole_answer(bundle, thing):
    """Whether any thing is a whole SETTING that meets all CLAUSES."""
    names, clauses = bundle
    if not is_literal_row(names, thing) or len(thing) != names:
        return False
    return all([meets(thing, clause) for clause in clauses])


def least_setting(bundle, lot):
    """The least whole SETTING by a PLAIN READING that meets all CLAUSES, None if at odds."""
    names, clauses = need_bundle(bundle)
    if not is_lot(names, lot) or not are_plain(clauses, lot):
        raise BadLot(lot)
    true = _followed_bits(_rows(clauses), 0)
    if true is None:
        return None
    further = [name if name in lot else -name for name in range(1, names + 1)]
    known = true | contrary_bits(true)
    return row_of_bits(true | bits_of([k for k in further if not known & LITERAL_BITS[k]]))
