"""Which CLAUSES are USED by some REFUTATION, and the PAPERS on it."""

from idleclauses.bundles import crossed_by, need_bundle, need_number, without_names
from idleclauses.chains import refutation_uses
from idleclauses.codes import ALL_CODES, missed_codes, others_together, together
from idleclauses.errors import BadClause, BadPaper
from idleclauses.forms import is_literal, is_literal_row, is_pair, is_worded_pair, names_of
from idleclauses.layers import Layers, Singles, least_part_with
from idleclauses.proofs import refutation_by
from idleclauses.settings import meets, touches


def kernel(bundle):
    """The ascending numbers of all USED CLAUSES."""
    _, clauses = need_bundle(bundle)
    return tuple(Layers(clauses).used)


def used_paper(bundle, number):
    """The PAPER on whether a CLAUSE is USED."""
    need_number(bundle, number)
    names, clauses = bundle
    part = least_part_with([missed_codes(clause) for clause in clauses], number)
    if part is not None:
        return "used", refutation_by(clauses, part)
    layers = Layers(clauses)
    if number not in layers.used:
        return "tidy", layers.rest_setting(names)
    singles = Singles(layers)
    return "used", singles.chain_to(singles.led_out(number, layers.lot))


def check_used(bundle, number, paper):
    """The first word of a PAPER on whether a CLAUSE is USED, if it holds."""
    need_number(bundle, number)
    if not is_worded_pair(("used", "tidy"), paper):
        raise BadPaper("form")
    word, thing = paper
    if word == "used" and not _is_use(bundle, number, thing):
        raise BadPaper("used")
    if word == "tidy" and not _is_tidy_touch(bundle, number, thing):
        raise BadPaper("tidy")
    return word


def _is_use(bundle, number, thing):
    """Whether any thing is a REFUTATION that uses this CLAUSE."""
    used = refutation_uses(bundle, thing)
    return used is not None and number in used


def _is_tidy_touch(bundle, number, thing):
    """Whether any thing is a TIDY SETTING that touches this CLAUSE."""
    names, clauses = bundle
    if not is_literal_row(names, thing) or not touches(thing, clauses[number]):
        return False
    return all([meets(thing, clause) for clause in clauses if touches(thing, clause)])


def kernel_paper(bundle):
    """The PAPER on the KERNEL: LAYERS, and a SETTING."""
    names, clauses = need_bundle(bundle)
    layers = Layers(clauses)
    chains = [_refutation_of_layer(bundle, lot, numbers) for lot, numbers, _ in layers.layers]
    return tuple(chains), layers.rest_setting(names)


def _refutation_of_layer(bundle, lot, numbers):
    """A REFUTATION of the BUNDLE CROSSED by a LOT, that uses what became of these CLAUSES."""
    _, clauses = bundle
    _, rows = crossed_by(bundle, lot)
    picked = [without_names(clauses[number], lot) for number in numbers]
    return refutation_by(rows, [rows.index(row) for row in picked])


def check_kernel(bundle, paper):
    """The KERNEL, by a PAPER on it that holds."""
    need_bundle(bundle)
    if not is_pair(paper):
        raise BadPaper("form")
    layers, setting = paper
    lot = _lot_of_layers(bundle, layers)
    if lot is None:
        raise BadPaper("layers")
    if not _is_rest(bundle, lot, setting):
        raise BadPaper("setting")
    return tuple(_of_names(bundle, lot))


def _of_names(bundle, lot):
    """The ascending numbers of the CLAUSES that have no names but those of the LOT."""
    _, clauses = bundle
    return [number for number, clause in enumerate(clauses) if without_names(clause, lot) == ()]


def _lot_of_layers(bundle, thing):
    """The LOT of all NAMES of the CLAUSES that LAYERS use, or None if any thing is no LAYERS."""
    if not isinstance(thing, tuple):
        return None
    lot = ()
    for chain in thing:
        left = crossed_by(bundle, lot)
        used = refutation_uses(left, chain)
        if used is None:
            return None
        _, clauses = left
        lot = names_of([lot, *[clauses[number] for number in used]])
    return lot


def _is_rest(bundle, lot, thing):
    """Whether any thing is a SETTING without names of the LOT that meets what has another name."""
    names, clauses = bundle
    if not is_literal_row(names, thing) or any([name in lot for name in names_of([thing])]):
        return False
    within = _of_names(bundle, lot)
    return all([number in within or meets(thing, clause) for number, clause in enumerate(clauses)])


def always_used(bundle):
    """The ascending numbers of the CLAUSES that each REFUTATION uses, of a BUNDLE at odds."""
    _, clauses = need_bundle(bundle)
    missed = [missed_codes(clause) for clause in clauses]
    if together(missed) != ALL_CODES:
        return ()
    others = others_together(missed)
    return tuple([number for number, codes in enumerate(others) if codes != ALL_CODES])


def single_chain(bundle, literal):
    """A CHAIN to the CLAUSE with this LITERAL alone; None if no USED CLAUSE has its NAME."""
    names, clauses = need_bundle(bundle)
    if not is_literal(names, literal):
        raise BadClause(literal)
    layers = Layers(clauses)
    if abs(literal) not in layers.lot:
        return None
    singles = Singles(layers)
    return singles.chain_to(singles.single(literal))
