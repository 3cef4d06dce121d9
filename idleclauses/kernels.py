"""Which CLAUSES are USED by some REFUTATION, and the PAPERS on it."""

from idleclauses.bundles import crossed, need_bundle, need_number, without
from idleclauses.chains import is_refutation, uses
from idleclauses.errors import BadClause, BadPaper
from idleclauses.forms import is_literal, is_literal_row, is_pair, is_worded_pair, names_of
from idleclauses.layers import (
    layers_of, led_out, of_names, proof_of_singles, rest_setting, used_names,
)
from idleclauses.proofs import refutation_by
from idleclauses.settings import is_at_odds, is_tidy, met, touched


def kernel(bundle):
    """The ascending numbers of all USED CLAUSES."""
    need_bundle(bundle)
    return of_names(bundle, used_names(bundle))


def used_paper(bundle, number):
    """The PAPER on whether a CLAUSE is USED."""
    need_number(bundle, number)
    lot = used_names(bundle)
    if number not in of_names(bundle, lot):
        return "tidy", rest_setting(bundle, lot)
    proof, singles = proof_of_singles(bundle)
    return "used", proof.chain_to(led_out(proof, singles, number))


def check_used(bundle, number, paper):
    """The first word of a PAPER on whether a CLAUSE is USED, if it holds."""
    need_number(bundle, number)
    if not is_worded_pair(("used", "tidy"), paper):
        raise BadPaper("form")
    word, thing = paper
    if word == "used" and not _is_use(bundle, number, thing):
        raise BadPaper("used")
    if word == "tidy" and not _is_tidy_touch(bundle, number, thing):
        raise BadPaper("tidy")
    return word


def _is_use(bundle, number, thing):
    """Whether any thing is a REFUTATION that uses this CLAUSE."""
    return is_refutation(bundle, thing) and number in uses(bundle, thing)


def _is_tidy_touch(bundle, number, thing):
    """Whether any thing is a TIDY SETTING that touches this CLAUSE."""
    names, _ = bundle
    if not is_literal_row(names, thing):
        return False
    return is_tidy(bundle, thing) and number in touched(bundle, thing)


def kernel_paper(bundle):
    """The PAPER on the KERNEL: LAYERS, and a SETTING."""
    need_bundle(bundle)
    layers, lot = layers_of(bundle)
    chains = [refutation_by(crossed(bundle, ahead), part) for ahead, part in layers]
    return tuple(chains), rest_setting(bundle, lot)


def check_kernel(bundle, paper):
    """The KERNEL, by a PAPER on it that holds."""
    need_bundle(bundle)
    if not is_pair(paper):
        raise BadPaper("form")
    layers, setting = paper
    lot = _lot_of_layers(bundle, layers)
    if lot is None:
        raise BadPaper("layers")
    if not _is_rest(bundle, lot, setting):
        raise BadPaper("setting")
    return of_names(bundle, lot)


def _lot_of_layers(bundle, thing):
    """The LOT of all NAMES of the CLAUSES that LAYERS use, or None if any thing is no LAYERS."""
    if not isinstance(thing, tuple):
        return None
    lot = ()
    for chain in thing:
        left = crossed(bundle, lot)
        if not is_refutation(left, chain):
            return None
        _, clauses = left
        lot = names_of([lot, *[clauses[number] for number in uses(left, chain)]])
    return lot


def _is_rest(bundle, lot, thing):
    """Whether any thing is a SETTING without names of the LOT that meets what has another name."""
    names, clauses = bundle
    if not is_literal_row(names, thing) or any([name in lot for name in names_of([thing])]):
        return False
    within = of_names(bundle, lot)
    meeting = met(bundle, thing)
    return all([number in within or number in meeting for number in range(len(clauses))])


def always_used(bundle):
    """The ascending numbers of the CLAUSES that each REFUTATION uses, of a BUNDLE at odds."""
    _, clauses = need_bundle(bundle)
    if not is_at_odds(bundle):
        return ()
    numbers = list(range(len(clauses)))
    return tuple([number for number in numbers if not is_at_odds(without(bundle, number))])


def single_chain(bundle, literal):
    """A CHAIN to the CLAUSE with this LITERAL alone; None if no USED CLAUSE has its NAME."""
    names, _ = need_bundle(bundle)
    if not is_literal(names, literal):
        raise BadClause(literal)
    proof, singles = proof_of_singles(bundle)
    if literal not in singles:
        return None
    return proof.chain_to(singles[literal])
