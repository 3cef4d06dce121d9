"""Which CLAUSES are USED, found layer by layer, and CHAINS to each LITERAL of their names.

A layer is a least lot at odds of the CLAUSES without the names of the layers ahead.
"""

from idleclauses.bundles import without_names
from idleclauses.codes import ALL_CODES, FALSE_CODES, together, whole_setting_beside
from idleclauses.forms import names_of
from idleclauses.proofs import Fall, Proof


def least_part(missed):
    """The numbers of CLAUSES that are at odds, but not without any of them; None without such.

    Of each CLAUSE the missed codes are told. From the last one to the first one each is left
    out, if the others that are left are at odds.
    """
    ahead = [0]
    for codes in missed:
        ahead.append(ahead[-1] | codes)
    if ahead[-1] != ALL_CODES:
        return None
    kept = 0
    part = []
    for number in reversed(range(len(missed))):
        if ahead[number] | kept != ALL_CODES:
            kept |= missed[number]
            part.append(number)
    return part[::-1]


def least_part_with(missed, number):
    """The same with the CLAUSE of this number among them; None where none is found so."""
    ahead = [missed[number]]
    for codes in missed:
        ahead.append(ahead[-1] | codes)
    if ahead[-1] != ALL_CODES:
        return None
    kept = 0
    part = [number]
    for other in reversed(range(len(missed))):
        if other != number and ahead[other] | kept != ALL_CODES:
            kept |= missed[other]
            part.append(other)
    if kept == ALL_CODES:
        return None
    return sorted(part)


class Layers:
    """The layers of CLAUSES, one behind the other, and what is left behind the last one.

    Each one has the LOT of the names of the layers ahead, the numbers of its CLAUSES, and the LOT
    with its own names, too. Behind the last one the LOT is that of all names of USED CLAUSES;
    used are the numbers of these, left those of all others.
    """

    def __init__(self, clauses):
        self.clauses = clauses
        self.layers = []
        self.used = []
        self.left = list(range(len(clauses)))
        self.cross(())
        part = least_part(self.codes)
        while part is not None:
            ahead = self.lot
            numbers = [self.left[at] for at in part]
            self.cross(names_of([ahead, *[clauses[number] for number in numbers]]))
            self.layers.append((ahead, numbers, self.lot))
            part = least_part(self.codes)
        self.used = sorted(self.used)

    def cross(self, lot):
        """Leaves the names of a LOT out of all CLAUSES; codes are those that miss what is left."""
        false = list(FALSE_CODES)
        for name in lot:
            false[name] = false[-name] = ALL_CODES
        numbers = self.left
        self.lot = lot
        self.left = []
        self.codes = []
        for number in numbers:
            codes = ALL_CODES
            for literal in self.clauses[number]:
                codes &= false[literal]
            if codes == ALL_CODES:
                self.used.append(number)
            else:
                self.left.append(number)
                self.codes.append(codes)

    def rest_setting(self, names):
        """A SETTING that meets each CLAUSE which is not USED, by names of no USED one alone."""
        setting = whole_setting_beside(names, together(self.codes))
        further = names_of([self.clauses[number] for number in self.left])
        return tuple([literal for literal in setting
                      if abs(literal) in further and abs(literal) not in self.lot])


class Singles(Proof):
    """A Proof with STEPS that have one LITERAL alone, of the names of USED CLAUSES, as asked for."""

    def __init__(self, layers):
        Proof.__init__(self, layers.clauses, list(range(len(layers.clauses))))
        self.clauses = layers.clauses
        self.layers = layers.layers
        self.falls = {}
        self.singles = {}
        self.brought = {}

    def single(self, literal):
        """The number of a STEP with the CLAUSE of this LITERAL alone.

        It is where the LITERAL is false that some CLAUSE falls. As the CLAUSES of a layer are at
        odds just all together, one that has it is used; as no new STEP is by its name, it stays.
        """
        if literal not in self.singles:
            fall = self.fall_of(abs(literal))
            names = [name for name in fall.names if name != abs(literal)]
            self.singles[literal] = self.led_under(fall, fall.every & ~fall.having[-literal], names)
        return self.singles[literal]

    def fall_of(self, name):
        """The Fall of the layer to which a name belongs."""
        at = 0
        while name not in self.layers[at][2]:
            at += 1
        if at not in self.falls:
            ahead, numbers, _ = self.layers[at]
            rows = [without_names(self.clauses[number], ahead) for number in numbers]
            self.falls[at] = Fall(rows, numbers, ahead)
        return self.falls[at]

    def step_of(self, fall, place):
        """The number of a STEP with the CLAUSE at a place, which is a bit."""
        number = fall.numbers[place.bit_length() - 1]
        if number not in self.brought:
            self.brought[number] = self.led_out(number, fall.lot)
        return self.brought[number]

    def led_out(self, number, lot):
        """The number of a STEP with a CLAUSE without the names of a LOT."""
        step = number
        for literal in self.clauses[number]:
            if abs(literal) in lot:
                step = self.put_by(step, self.single(-literal), literal)
        return step
