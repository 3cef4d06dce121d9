"""CHAINS: where they lead, which CLAUSES they use, and those that lead to ()."""

from idleclauses.bundles import need_bundle
from idleclauses.codes import LITERAL_BITS, bits_of, contrary_bits, missed_codes, row_of_bits
from idleclauses.errors import BadChain
from idleclauses.forms import is_index, is_name
from idleclauses.layers import least_part
from idleclauses.proofs import needed_steps, refutation_by

MOST_STEPS = 2000


def need_chain(bundle, thing):
    """Itself, if it is a CHAIN of the BUNDLE."""
    led_bits(need_bundle(bundle), thing)
    return thing


def clauses_of(bundle, chain):
    """The CLAUSES of the STEPS of a CHAIN."""
    return tuple([row_of_bits(bits) for bits in led_bits(need_bundle(bundle), chain)])


def led_bits(bundle, thing):
    """The bits of the CLAUSES of the STEPS of a CHAIN of what is a BUNDLE."""
    names, clauses = bundle
    if not isinstance(thing, tuple) or not 1 <= len(thing) <= MOST_STEPS:
        raise BadChain(None)
    rows = [bits_of(clause) for clause in clauses]
    led = []
    for at, step in enumerate(thing):
        bits = _bits_of_step(names, rows, led, step)
        if bits is None:
            raise BadChain(at)
        led.append(bits)
    return led


def _bits_of_step(names, rows, led, step):
    """The bits of the CLAUSE of a STEP behind STEPS with the bits led, or None if it is no STEP."""
    if not isinstance(step, tuple) or step == () or not isinstance(step[0], str):
        return None
    if step[0] == "clause" and len(step) == 2 and is_index(len(rows), step[1]):
        return rows[step[1]]
    if step[0] != "by" or len(step) != 4:
        return None
    _, one, other, name = step
    if is_index(len(led), one) and is_index(len(led), other) and is_name(names, name):
        return _bits_by(led[one], led[other], name)
    return None


def _bits_by(one, other, name):
    """The bits of the CLAUSE that two CLAUSES have by a name, or None."""
    if not one & LITERAL_BITS[name] or not other & LITERAL_BITS[-name]:
        return None
    left = one & ~LITERAL_BITS[name]
    if contrary_bits(left) & other:
        return None
    return left | other & ~LITERAL_BITS[-name]


def uses(bundle, chain):
    """The ascending numbers of the CLAUSES that a CHAIN uses."""
    need_chain(bundle, chain)
    return _uses_of(chain)


def _uses_of(chain):
    """The ascending numbers of the CLAUSES that what is a CHAIN uses."""
    needed = [chain[at] for at in needed_steps(chain)]
    return tuple(sorted({step[1] for step in needed if step[0] == "clause"}))


def refutation_uses(bundle, thing):
    """The ascending numbers of what any thing uses, if it is a REFUTATION of the BUNDLE, or None."""
    try:
        led = led_bits(bundle, thing)
    except BadChain:
        return None
    if led[-1] != 0:
        return None
    return _uses_of(thing)


def refutation(bundle):
    """A REFUTATION of the BUNDLE, or None."""
    _, clauses = need_bundle(bundle)
    part = least_part([missed_codes(clause) for clause in clauses])
    if part is None:
        return None
    return refutation_by(clauses, part)
