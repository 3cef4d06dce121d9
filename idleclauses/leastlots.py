"""LEAST LOTS of CLAUSES at odds: all of them, the first one, and the PAPER on whether one is."""

from idleclauses.bundles import need_bundle, need_numbers
from idleclauses.chains import refutation_uses
from idleclauses.codes import (
    ALL_CODES, missed_codes, others_together, together, whole_setting_beside,
)
from idleclauses.errors import BadPaper, TooMany
from idleclauses.forms import is_integer, is_literal_row
from idleclauses.layers import least_part
from idleclauses.matchings import more_by
from idleclauses.proofs import refutation_by
from idleclauses.settings import meets
from idleclauses.unmet import unmet_rows

MOST_LOTS = 300
# How many things the PAPER with a word has, the word among them.
LENGTHS = {"least": 3, "met": 2, "spare": 3}


def is_least_lot(bundle, numbers):
    """Whether NUMBERS are a LEAST LOT."""
    missed = _missed_of(bundle, need_numbers(bundle, numbers))
    return together(missed) == ALL_CODES and ALL_CODES not in others_together(missed)


def _missed_of(bundle, numbers):
    """For each of the CLAUSES with these numbers the codes that do not meet it."""
    _, clauses = bundle
    return [missed_codes(clauses[number]) for number in numbers]


def first_least(bundle):
    """The first LEAST LOT, None of a BUNDLE that is not at odds."""
    _, clauses = need_bundle(bundle)
    part = least_part([missed_codes(clause) for clause in clauses])
    if part is None:
        return None
    return tuple(part)


def least_lots(bundle):
    """The ascending tuple of all LEAST LOTS."""
    need_bundle(bundle)
    return all_least(bundle)


def all_least(bundle):
    """The ascending tuple of all LEAST LOTS of what is a BUNDLE."""
    _, clauses = bundle
    search = Search(unmet_rows(bundle), len(clauses))
    search.look_further((), [], 0, (1 << len(clauses)) - 1)
    return tuple(sorted(search.found))


class Search:
    """Goes through lots of CLAUSES each of which alone has some row, till they have all rows."""

    def __init__(self, rows, many):
        self.rows = rows
        self.having = [sum([1 << at for at, row in enumerate(rows) if row >> number & 1])
                       for number in range(many)]
        self.found = []

    def look_further(self, lot, alone, had, allowed):
        """Finds each LEAST LOT that has this lot, and else allowed CLAUSES alone.

        For each CLAUSE of the lot alone has the rows that no other one of it has; had are the
        rows that some one has.
        """
        missing = (1 << len(self.rows)) - 1 & ~had
        if missing == 0:
            if len(self.found) >= MOST_LOTS:
                raise TooMany(MOST_LOTS)
            self.found.append(tuple(sorted(lot)))
            return
        wanted = self.rows[(missing & -missing).bit_length() - 1] & allowed
        allowed &= ~wanted
        for number, having in enumerate(self.having):
            left = [bits & ~having for bits in alone]
            if wanted >> number & 1 and 0 not in left:
                self.look_further((*lot, number), [*left, having & ~had], had | having, allowed)
                allowed |= 1 << number


def least_paper(bundle, numbers):
    """The PAPER on whether NUMBERS are a LEAST LOT."""
    missed = _missed_of(bundle, need_numbers(bundle, numbers))
    names, clauses = bundle
    setting = whole_setting_beside(names, together(missed))
    if setting is not None:
        return "met", setting
    others = others_together(missed)
    for number, codes in zip(numbers, others):
        if codes == ALL_CODES:
            return "spare", number, refutation_by(clauses, _beside(numbers, number))
    settings = [whole_setting_beside(names, codes) for codes in others]
    return "least", refutation_by(clauses, list(numbers)), tuple(settings)


def _beside(numbers, number):
    """The other ones of these numbers."""
    return [other for other in numbers if other != number]


def check_least(bundle, numbers, paper):
    """The first word of a PAPER on whether NUMBERS are a LEAST LOT, if it holds."""
    need_numbers(bundle, numbers)
    if not _has_form(paper):
        raise BadPaper("form")
    if paper[0] == "met" and not _does_meet(bundle, numbers, paper[1]):
        raise BadPaper("met")
    if paper[0] == "least" and not _is_least(bundle, numbers, paper[1], paper[2]):
        raise BadPaper("least")
    if paper[0] == "spare" and not _is_spare(bundle, numbers, paper[1], paper[2]):
        raise BadPaper("spare")
    return paper[0]


def _has_form(thing):
    """Whether any thing is a tuple of one of the words and as many things as it wants."""
    if not isinstance(thing, tuple) or thing == () or not isinstance(thing[0], str):
        return False
    return LENGTHS.get(thing[0]) == len(thing)


def _does_meet(bundle, numbers, thing):
    """Whether any thing is a SETTING that meets all of these CLAUSES."""
    names, clauses = bundle
    if not is_literal_row(names, thing):
        return False
    return all([meets(thing, clauses[number]) for number in numbers])


def _is_least(bundle, numbers, chain, settings):
    """Whether any things are a REFUTATION by these CLAUSES, and SETTINGS without each of them."""
    if not _is_refuted_by(bundle, numbers, chain):
        return False
    if not isinstance(settings, tuple) or len(settings) != len(numbers):
        return False
    return all([_does_meet(bundle, _beside(numbers, number), setting)
                for number, setting in zip(numbers, settings)])


def _is_spare(bundle, numbers, number, chain):
    """Whether any things are one of these numbers, and a REFUTATION by the other CLAUSES."""
    if not is_integer(number) or number not in numbers:
        return False
    return _is_refuted_by(bundle, _beside(numbers, number), chain)


def _is_refuted_by(bundle, numbers, thing):
    """Whether any thing is a REFUTATION that uses none but these CLAUSES."""
    used = refutation_uses(bundle, thing)
    return used is not None and all([number in numbers for number in used])


def least_mores(bundle):
    """The pair of the least and the greatest MORE of a LEAST LOT, None if not at odds."""
    mores = [more_by(bundle, lot) for lot in least_lots(bundle)]
    if mores == []:
        return None
    return min(mores), max(mores)
