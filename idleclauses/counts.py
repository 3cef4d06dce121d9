"""The COUNT of whole SETTINGS that meet all CLAUSES, CLASHING CLAUSES, and the PAPER on the COUNT."""

from idleclauses.bundles import need_bundle
from idleclauses.codes import (
    ALL_CODES, covered_codes, how_many, missed_by_clauses, missed_codes,
)
from idleclauses.errors import BadPaper
from idleclauses.forms import is_literal_row, is_pair

MOST_SETTINGS = 128


def are_clashing(bundle):
    """Whether each two CLAUSES of the BUNDLE have contrary LITERALS."""
    _, clauses = need_bundle(bundle)
    return _are_apart([missed_codes(clause) for clause in clauses])


def _are_apart(parts):
    """Whether no two of some bits have one in common."""
    seen = 0
    for bits in parts:
        if seen & bits:
            return False
        seen |= bits
    return True


def count(bundle):
    """The COUNT of the BUNDLE."""
    names, clauses = need_bundle(bundle)
    # Codes are those of seven names, so each whole SETTING of fewer names has several.
    return how_many(ALL_CODES & ~missed_by_clauses(clauses)) >> 7 - names


def count_paper(bundle):
    """The PAPER on the COUNT."""
    names, clauses = need_bundle(bundle)
    missed = [missed_codes(clause) for clause in clauses]
    goods = []
    bads = []
    left = [()]
    for name in range(1, names + 2):
        further = []
        for setting in left:
            codes = covered_codes(setting)
            if _is_bad(missed, codes):
                bads.append(setting)
            elif _is_good(missed, codes):
                goods.append(setting)
            else:
                further += [(*setting, name), (*setting, -name)]
        left = further
    return tuple(goods), tuple(bads)


def _is_good(missed, codes):
    """Whether the SETTING with these codes meets each CLAUSE, whose missed codes are told."""
    return not any([bits & codes for bits in missed])


def _is_bad(missed, codes):
    """Whether the SETTING with these codes contradicts some CLAUSE, by the missed codes of each."""
    return any([codes & ~bits == 0 for bits in missed])


def check_count(bundle, paper):
    """The COUNT, by a PAPER on it that holds."""
    names, clauses = need_bundle(bundle)
    if not is_pair(paper) or not all([isinstance(part, tuple) for part in paper]):
        raise BadPaper("form")
    settings = paper[0] + paper[1]
    if not 1 <= len(settings) <= MOST_SETTINGS:
        raise BadPaper("settings")
    if not all([is_literal_row(names, setting) for setting in settings]):
        raise BadPaper("settings")
    goods = [covered_codes(setting) for setting in paper[0]]
    bads = [covered_codes(setting) for setting in paper[1]]
    missed = [missed_codes(clause) for clause in clauses]
    if not _are_apart(goods + bads):
        raise BadPaper("clash")
    if not all([_is_good(missed, codes) for codes in goods]):
        raise BadPaper("goods")
    if not all([_is_bad(missed, codes) for codes in bads]):
        raise BadPaper("bads")
    if _many_whole(names, settings) != 1 << names:
        raise BadPaper("sum")
    return _many_whole(names, paper[0])


def _many_whole(names, settings):
    """How many whole SETTINGS have all LITERALS of these, by as many LITERALS as they have."""
    return sum([1 << names - len(setting) for setting in settings])
