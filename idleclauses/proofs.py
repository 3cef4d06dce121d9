"""STEPS that are made one after another, and what leads from CLAUSES at odds to ()."""

from idleclauses.codes import LITERAL_BITS, bits_of

NAMES = (1, 2, 3, 4, 5, 6, 7)


class Fall:
    """CLAUSES that are not met all, and which of them have each LITERAL, by their places as bits.

    They are those of the STEPS with these numbers, without the names of a LOT.
    """

    def __init__(self, clauses, numbers, lot=()):
        self.numbers = numbers
        self.lot = lot
        self.every = (1 << len(numbers)) - 1
        # The places of the CLAUSES that have a LITERAL; those of contrary ones count from the end.
        self.having = [0 for _ in LITERAL_BITS]
        for at, clause in enumerate(clauses):
            for literal in clause:
                self.having[literal] |= 1 << at
        self.names = [name for name in NAMES if self.having[name] or self.having[-name]]


class Proof:
    """STEPS, and the bits of their CLAUSES; the first ones are those of CLAUSES with some numbers."""

    def __init__(self, clauses, numbers):
        self.steps = [("clause", number) for number in numbers]
        self.led = [bits_of(clauses[number]) for number in numbers]

    def put_by(self, one, other, literal):
        """The number of a new STEP by a LITERAL, which the first STEP has, the other one contrary."""
        if literal > 0:
            self.steps.append(("by", one, other, literal))
        else:
            self.steps.append(("by", other, one, -literal))
        both = LITERAL_BITS[literal] | LITERAL_BITS[-literal]
        self.led.append((self.led[one] | self.led[other]) & ~both)
        return len(self.steps) - 1

    def has(self, step, literal):
        """Whether the CLAUSE of a STEP has a LITERAL."""
        return self.led[step] & LITERAL_BITS[literal] != 0

    def chain_to(self, last):
        """The CHAIN of those STEPS alone from which this one comes, with itself at the end."""
        places = {}
        chain = []
        for at in needed_steps(self.steps[:last + 1]):
            places[at] = len(chain)
            step = self.steps[at]
            if step[0] == "by":
                step = "by", places[step[1]], places[step[2]], step[3]
            chain.append(step)
        return tuple(chain)

    def step_of(self, fall, place):
        """The number of a STEP with the CLAUSE at a place, which is a bit."""
        return fall.numbers[place.bit_length() - 1]

    def led_under(self, fall, unmet, names):
        """The number of a STEP whose LITERALS are false on a way that left these names unset.

        It leads there by setting names one after another, till a CLAUSE falls. The CLAUSES that
        are not met are told; no SETTING of these names meets them all.
        """
        once = twice = thrice = 0
        for name in names:
            either = fall.having[name] | fall.having[-name]
            thrice |= twice & either
            twice |= once & either
            once |= either
        fallen = unmet & ~once
        if fallen:
            return self.step_of(fall, fallen & -fallen)
        single = unmet & ~twice
        if single:
            return self.led_by_single(fall, unmet, names, single & -single)
        return self.led_by_turns(fall, unmet, names, unmet & ~thrice)

    def led_by_single(self, fall, unmet, names, place):
        """The same, where the CLAUSE at a place has a single LITERAL of these names."""
        literal = [one for name in names for one in (name, -name) if fall.having[one] & place][0]
        rest = [name for name in names if name != abs(literal)]
        step = self.led_under(fall, unmet & ~fall.having[literal], rest)
        if not self.has(step, -literal):
            return step
        return self.put_by(self.step_of(fall, place), step, literal)

    def led_by_turns(self, fall, unmet, names, pairs):
        """The same by a name of both signs, one that CLAUSES with a pair of names have, if any."""
        signed = [name for name in names if fall.having[name] & unmet and fall.having[-name] & unmet]
        near = [name for name in signed if (fall.having[name] | fall.having[-name]) & pairs]
        name = (near or signed)[0]
        rest = [other for other in names if other != name]
        where_true = self.led_under(fall, unmet & ~fall.having[name], rest)
        if not self.has(where_true, -name):
            return where_true
        where_false = self.led_under(fall, unmet & ~fall.having[-name], rest)
        if not self.has(where_false, name):
            return where_false
        return self.put_by(where_false, where_true, name)


def needed_steps(steps):
    """The ascending numbers of the STEPS from which the last one comes, its own too."""
    needed = [False for _ in steps]
    needed[-1] = True
    for at in reversed(range(len(steps))):
        if needed[at] and len(steps[at]) == 4:
            _, one, other, _ = steps[at]
            needed[one] = True
            needed[other] = True
    return [at for at, is_needed in enumerate(needed) if is_needed]


def refutation_by(clauses, numbers):
    """A REFUTATION that uses none but those of the CLAUSES that have these numbers, at odds."""
    proof = Proof(clauses, numbers)
    fall = Fall([clauses[number] for number in numbers], list(range(len(numbers))))
    return proof.chain_to(proof.led_under(fall, fall.every, fall.names))
