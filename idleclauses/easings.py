"""EASINGS, without which a BUNDLE is not at odds, what they cost, and the PAPER on it."""

from idleclauses.bundles import need_bundle, need_number, need_numbers
from idleclauses.codes import ALL_CODES, bits_of, missed_by_clauses, setting_with_code
from idleclauses.errors import BadPaper
from idleclauses.forms import is_literal_row, is_name, is_numbers, is_pair
from idleclauses.prices import BEYOND_PRICES, costs_of, least_in, missed_lanes, need_prices
from idleclauses.settings import meets
from idleclauses.unmet import unmet_rows


def is_easing(bundle, numbers):
    """Whether NUMBERS are an EASING."""
    need_numbers(bundle, numbers)
    _, clauses = bundle
    others = [clause for at, clause in enumerate(clauses) if at not in numbers]
    return missed_by_clauses(others) != ALL_CODES


def least_easings(bundle):
    """The ascending tuple of all EASINGS that are least ones."""
    _, clauses = need_bundle(bundle)
    # They are what a whole SETTING does not meet, where no other one leaves a part of it unmet.
    found = []
    for row in unmet_rows(bundle):
        if not any([kept & row == kept for kept in found]):
            found.append(row)
    return tuple(sorted([_numbers_in(len(clauses), row) for row in found]))


def _numbers_in(many, row):
    """The ascending numbers, of so many, that are bits of a row."""
    return tuple([number for number in range(many) if row >> number & 1])


def _sum_of(prices, numbers):
    """What the CLAUSES with these numbers cost together."""
    return sum([prices[number] for number in numbers])


def least_cost(bundle, prices):
    """The LEAST COST: that of a cheapest EASING."""
    need_prices(bundle, prices)
    names, _ = bundle
    cost, _ = least_in(names, costs_of(bundle, prices))
    return cost


def least_cost_of_ones(bundle):
    """The LEAST COST with all PRICES 1."""
    _, clauses = need_bundle(bundle)
    return least_cost(bundle, (1,) * len(clauses))


def cheapest_easing(bundle, prices):
    """The first one of the cheapest EASINGS that are least ones."""
    need_prices(bundle, prices)
    _, numbers = min([(_sum_of(prices, numbers), numbers) for numbers in least_easings(bundle)])
    return numbers


def cost_paper(bundle, prices):
    """The PAPER on the LEAST COST."""
    need_prices(bundle, prices)
    names, clauses = bundle
    cost, code = least_in(names, costs_of(bundle, prices))
    rows = [(bits_of(clause), number) for number, clause in enumerate(clauses)]
    return setting_with_code(names, code), _tree(rows, prices, cost, 1, 0)


def _tree(rows, prices, cost, name, false):
    """A TREE for a way that turned on all names ahead of this one, the bits that are false told."""
    fallen = tuple([number for bits, number in rows if bits & ~false == 0])
    if _sum_of(prices, fallen) >= cost:
        return "bound", fallen
    return ("turn", name, _tree(rows, prices, cost, name + 1, false | bits_of([-name])),
            _tree(rows, prices, cost, name + 1, false | bits_of([name])))


def check_cost(bundle, prices, paper):
    """The LEAST COST, by a PAPER on it that holds."""
    need_prices(bundle, prices)
    names, clauses = bundle
    if not is_pair(paper):
        raise BadPaper("form")
    setting, tree = paper
    if not is_literal_row(names, setting) or len(setting) != names:
        raise BadPaper("setting")
    unmet = [number for number, clause in enumerate(clauses) if not meets(setting, clause)]
    cost = _sum_of(prices, unmet)
    if not _does_bound(bundle, prices, cost, (), tree):
        raise BadPaper("tree")
    return cost


def _does_bound(bundle, prices, cost, way, thing):
    """Whether any thing is a TREE, for a cost, behind a way of LITERALS that are true."""
    names, _ = bundle
    if not isinstance(thing, tuple) or thing == () or not isinstance(thing[0], str):
        return False
    if thing[0] == "bound" and len(thing) == 2:
        return _is_bound(bundle, prices, cost, way, thing[1])
    if thing[0] != "turn" or len(thing) != 4:
        return False
    _, name, where_true, where_false = thing
    if not is_name(names, name) or name in way or -name in way:
        return False
    return (_does_bound(bundle, prices, cost, (*way, name), where_true)
            and _does_bound(bundle, prices, cost, (*way, -name), where_false))


def _is_bound(bundle, prices, cost, way, thing):
    """Whether any thing is numbers of CLAUSES that a way contradicts, which cost so much or more."""
    _, clauses = bundle
    if not is_numbers(len(clauses), thing):
        return False
    if not all([-literal in way for number in thing for literal in clauses[number]]):
        return False
    return _sum_of(prices, thing) >= cost


def limit_of(bundle, prices, number):
    """The LIMIT of a CLAUSE, None of ()."""
    need_prices(bundle, prices)
    need_number(bundle, number)
    names, clauses = bundle
    if clauses[number] == ():
        return None
    others = costs_of(bundle, (*prices[:number], 0, *prices[number + 1:]))
    without_it, _ = least_in(names, others + missed_lanes(names, clauses[number]) * BEYOND_PRICES)
    with_it, _ = least_in(names, others)
    return without_it - with_it
