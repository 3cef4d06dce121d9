"""Which names USED CLAUSES have, found layer by layer, and CHAINS to each of their LITERALS.

A layer is a least lot of CLAUSES at odds of the BUNDLE, without the names of the layers ahead.
"""

from idleclauses.bundles import crossed, without_names
from idleclauses.codes import ALL_CODES, missed_codes
from idleclauses.forms import names_of
from idleclauses.proofs import Proof, led_under
from idleclauses.settings import meeting_setting


def least_part(missed):
    """The numbers of CLAUSES that are at odds, but not without any of them; None without such.

    Of each CLAUSE the missed codes are told. From the last one to the first one each is left
    out, if the others that are left are at odds.
    """
    ahead = [0]
    for codes in missed:
        ahead.append(ahead[-1] | codes)
    if ahead[-1] != ALL_CODES:
        return None
    kept = 0
    part = []
    for number in reversed(range(len(missed))):
        if ahead[number] | kept != ALL_CODES:
            kept |= missed[number]
            part.append(number)
    return part[::-1]


def layers_of(bundle):
    """The layers, and the LOT of the names of all USED CLAUSES.

    A layer is a pair: the LOT of the names of the layers ahead, and its numbers of CLAUSES of the
    BUNDLE that is CROSSED by this LOT.
    """
    layers = []
    lot = ()
    left = crossed(bundle, lot)
    part = _least_part_of(left)
    while part is not None:
        layers.append((lot, part))
        lot = names_of([lot, *_picked(left, part)])
        left = crossed(bundle, lot)
        part = _least_part_of(left)
    return layers, lot


def _least_part_of(bundle):
    """The numbers of a least part at odds of the CLAUSES of a BUNDLE, or None."""
    _, clauses = bundle
    return least_part([missed_codes(clause) for clause in clauses])


def _picked(bundle, numbers):
    """The CLAUSES with these numbers."""
    _, clauses = bundle
    return [clauses[number] for number in numbers]


def used_names(bundle):
    """The LOT of the names of all USED CLAUSES."""
    _, lot = layers_of(bundle)
    return lot


def of_names(bundle, lot):
    """The ascending numbers of the CLAUSES that have no names but those of the LOT."""
    _, clauses = bundle
    return tuple([at for at, clause in enumerate(clauses) if without_names(clause, lot) == ()])


def rest_setting(bundle, lot):
    """A SETTING that meets each CLAUSE which has another name, by such other names alone.

    There is one where the BUNDLE CROSSED by the LOT is not at odds.
    """
    left = crossed(bundle, lot)
    _, clauses = left
    further = names_of(clauses)
    return tuple([literal for literal in meeting_setting(left) if abs(literal) in further])


def proof_of_singles(bundle):
    """A Proof, and the numbers of its STEPS that have one LITERAL alone, by these LITERALS.

    There is one for each LITERAL of each NAME of a USED CLAUSE.
    """
    proof = Proof(bundle)
    singles = {}
    layers, _ = layers_of(bundle)
    for lot, part in layers:
        clauses = _picked(crossed(bundle, lot), part)
        sources = [led_out(proof, singles, _origin(bundle, lot, clause)) for clause in clauses]
        singles.update(_singles_of_layer(proof, sources, names_of(clauses)))
    return proof, singles


def _origin(bundle, lot, clause):
    """The number of the first CLAUSE that is this one without the names of the LOT."""
    _, clauses = bundle
    shorter = [without_names(other, lot) for other in clauses]
    return shorter.index(clause)


def _singles_of_layer(proof, sources, names):
    """The numbers of new STEPS that have one LITERAL of these names alone, by these LITERALS.

    Where a LITERAL is false, those of the sources that do not have its contrary one are at odds.
    Those without its name are not, as sources are a layer: so one that has the LITERAL is used,
    and as no new STEP is by its name, the LITERAL stays.
    """
    singles = {}
    for name in names:
        others = [other for other in names if other != name]
        for literal in (name, -name):
            singles[literal] = led_under(proof, sources, [-literal], others)
    return singles


def led_out(proof, singles, step):
    """The number of a STEP that has the LITERALS of this one without those of names in singles."""
    literals = proof.clauses[step]
    for literal in literals:
        if -literal in singles and literal > 0:
            step = proof.put_by(step, singles[-literal], literal)
        elif -literal in singles:
            step = proof.put_by(singles[-literal], step, -literal)
    return step
