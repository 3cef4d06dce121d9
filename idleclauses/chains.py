"""CHAINS: where they lead, which CLAUSES they use, and those that lead to ()."""

from idleclauses.bundles import need_bundle
from idleclauses.errors import BadChain
from idleclauses.forms import is_index, is_name
from idleclauses.proofs import joined, needed_steps, refutation_by
from idleclauses.settings import is_at_odds

MOST_STEPS = 2000


def need_chain(bundle, thing):
    """Itself, if it is a CHAIN of the BUNDLE."""
    clauses_of(bundle, thing)
    return thing


def clauses_of(bundle, chain):
    """The CLAUSES of the STEPS of a CHAIN."""
    need_bundle(bundle)
    if not isinstance(chain, tuple) or not 1 <= len(chain) <= MOST_STEPS:
        raise BadChain(None)
    found = []
    for at, step in enumerate(chain):
        clause = _clause_of(bundle, found, step)
        if clause is None:
            raise BadChain(at)
        found.append(clause)
    return tuple(found)


def _clause_of(bundle, ahead, step):
    """The CLAUSE of a STEP behind STEPS with the CLAUSES ahead, or None if it is no such STEP."""
    if not isinstance(step, tuple) or step == () or not isinstance(step[0], str):
        return None
    if step[0] == "clause":
        return _clause_of_number(bundle, step)
    if step[0] == "by":
        return _clause_by(bundle, ahead, step)
    return None


def _clause_of_number(bundle, step):
    """The CLAUSE of a STEP with the word "clause", or None."""
    _, clauses = bundle
    if len(step) != 2 or not is_index(len(clauses), step[1]):
        return None
    return clauses[step[1]]


def _clause_by(bundle, ahead, step):
    """The CLAUSE of a STEP with the word "by", or None."""
    if len(step) != 4:
        return None
    names, _ = bundle
    _, one, other, name = step
    if not is_index(len(ahead), one) or not is_index(len(ahead), other):
        return None
    if not is_name(names, name):
        return None
    return joined(ahead[one], ahead[other], name)


def uses(bundle, chain):
    """The ascending numbers of the CLAUSES that a CHAIN uses."""
    need_chain(bundle, chain)
    needed = [chain[at] for at in needed_steps(chain)]
    return tuple(sorted({step[1] for step in needed if step[0] == "clause"}))


def refutation_uses(bundle, thing):
    """The ascending numbers of what any thing uses, if it is a REFUTATION, or None."""
    if not is_refutation(bundle, thing):
        return None
    return uses(bundle, thing)


def is_refutation(bundle, thing):
    """Whether any thing is a REFUTATION of the BUNDLE."""
    try:
        found = clauses_of(bundle, thing)
    except BadChain:
        return False
    return found[-1] == ()


def refutation(bundle):
    """A REFUTATION of the BUNDLE, or None."""
    _, clauses = need_bundle(bundle)
    if not is_at_odds(bundle):
        return None
    return refutation_by(bundle, list(range(len(clauses))))
