"""STEPS that are made one after another, and what leads from CLAUSES at odds to ()."""

from idleclauses.forms import row_of


class Proof:
    """STEPS over a BUNDLE, and their CLAUSES; the first STEPS are its CLAUSES, in their order."""

    def __init__(self, bundle):
        _, clauses = bundle
        self.steps = [("clause", number) for number in range(len(clauses))]
        self.clauses = list(clauses)

    def put_by(self, one, other, name):
        """The number of a new STEP by a name, which the first STEP has, the other one contrary."""
        self.steps.append(("by", one, other, name))
        self.clauses.append(joined(self.clauses[one], self.clauses[other], name))
        return len(self.steps) - 1

    def chain_to(self, last):
        """The CHAIN of those STEPS alone from which this one comes, with itself at the end."""
        places = {}
        chain = []
        for at in needed_steps(self.steps[:last + 1]):
            places[at] = len(chain)
            chain.append(_moved(self.steps[at], places))
        return tuple(chain)


def _moved(step, places):
    """The STEP, where the STEPS ahead have new places."""
    if step[0] == "clause":
        return step
    _, one, other, name = step
    return "by", places[one], places[other], name


def joined(one, other, name):
    """The CLAUSE that two CLAUSES have by a name, or None if a STEP by it cannot be made."""
    if name not in one or -name not in other:
        return None
    rest = [literal for literal in one if literal != name]
    if any([-literal in other for literal in rest]):
        return None
    further = [literal for literal in other if literal != -name and literal not in rest]
    return row_of(rest + further)


def needed_steps(steps):
    """The ascending numbers of the STEPS from which the last one comes, its own too."""
    needed = [False for _ in steps]
    needed[-1] = True
    for at in reversed(range(len(steps))):
        if needed[at] and steps[at][0] == "by":
            needed[steps[at][1]] = True
            needed[steps[at][2]] = True
    return [at for at in range(len(steps)) if needed[at]]


def led_under(proof, sources, path, names):
    """The number of a STEP whose LITERALS are all contrary to LITERALS of the path.

    It comes from the STEPS of sources, whose CLAUSES no SETTING with the path meets all. They
    have no names but those of the path and these names; new STEPS are made by these alone.
    """
    for step in sources:
        if all([-literal in path for literal in proof.clauses[step]]):
            return step
    name = names[0]
    unmet = [step for step in sources if name not in proof.clauses[step]]
    where_true = led_under(proof, unmet, [*path, name], names[1:])
    if -name not in proof.clauses[where_true]:
        return where_true
    unmet = [step for step in sources if -name not in proof.clauses[step]]
    where_false = led_under(proof, unmet, [*path, -name], names[1:])
    if name not in proof.clauses[where_false]:
        return where_false
    return proof.put_by(where_false, where_true, name)


def refutation_by(bundle, numbers):
    """A REFUTATION that uses none but these CLAUSES, which are at odds."""
    proof = Proof(bundle)
    names, _ = bundle
    return proof.chain_to(led_under(proof, numbers, [], list(range(1, names + 1))))
