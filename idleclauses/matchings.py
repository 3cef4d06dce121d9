"""MATCHINGS of CLAUSES with names, the EXCESS of CLAUSES, and the PAPER on it."""

from idleclauses.bundles import need_bundle, need_numbers
from idleclauses.errors import BadMatching, BadPaper
from idleclauses.forms import is_index, is_integer, is_numbers, is_pair, names_of, row_of
from idleclauses.pairings import paired, spread


def need_matching(bundle, thing):
    """Itself, if it is a MATCHING of the BUNDLE."""
    need_bundle(bundle)
    if not is_matching(bundle, thing):
        raise BadMatching(thing)
    return thing


def is_matching(bundle, thing):
    """Whether any thing is a MATCHING of the BUNDLE."""
    _, clauses = bundle
    if not isinstance(thing, tuple):
        return False
    last = -1
    names = []
    for pair in thing:
        if not is_pair(pair) or not is_index(len(clauses), pair[0]) or pair[0] <= last:
            return False
        last, literal = pair
        if not is_integer(literal) or literal not in clauses[last] or abs(literal) in names:
            return False
        names.append(abs(literal))
    return True


def matching_of(clauses, holders):
    """The MATCHING of the names with the numbers of the CLAUSES that hold them."""
    return tuple(sorted([(number, name if name in clauses[number] else -name)
                         for name, number in holders.items()]))


def greatest_matching(bundle):
    """A MATCHING with as many pairs as any."""
    _, clauses = need_bundle(bundle)
    return matching_of(clauses, paired(clauses))


def setting_by(bundle, matching):
    """The SETTING of a MATCHING: just its LITERALS."""
    need_matching(bundle, matching)
    return row_of([literal for _, literal in matching])


def more_of(bundle, numbers):
    """The MORE of NUMBERS: how many CLAUSES they are, less how many names these have."""
    need_numbers(bundle, numbers)
    return more_by(bundle, numbers)


def more_by(bundle, numbers):
    """The MORE of what are NUMBERS of what is a BUNDLE."""
    _, clauses = bundle
    return len(numbers) - len(names_of([clauses[number] for number in numbers]))


def excess(bundle):
    """The EXCESS of the BUNDLE: the greatest MORE of any NUMBERS."""
    _, clauses = need_bundle(bundle)
    return len(clauses) - len(paired(clauses))


def excess_paper(bundle):
    """The PAPER on the EXCESS."""
    _, clauses = need_bundle(bundle)
    holders = paired(clauses)
    numbers, _ = spread(clauses, holders)
    return matching_of(clauses, holders), numbers


def check_excess(bundle, paper):
    """The EXCESS, by a PAPER on it that holds."""
    _, clauses = need_bundle(bundle)
    if not is_pair(paper):
        raise BadPaper("form")
    matching, numbers = paper
    if not is_matching(bundle, matching):
        raise BadPaper("matching")
    if not is_numbers(len(clauses), numbers):
        raise BadPaper("numbers")
    more = more_by(bundle, numbers)
    if len(clauses) - len(matching) != more:
        raise BadPaper("count")
    return more
