"""WEIGHINGS and HALVES: names weighed so that no CLAUSE weighs too much, and the PAPERS on it."""

from idleclauses.bundles import need_bundle
from idleclauses.codes import LITERALS, LITERAL_BITS, bits_of, row_of_bits
from idleclauses.errors import BadHalves, BadPaper, BadWeighing
from idleclauses.forms import is_index, is_integer, is_pair, is_worded_pair
from idleclauses.ways import reached_bits, shortest_way


def are_halves(bundle, value):
    """Whether any value is HALVES of the BUNDLE."""
    need_bundle(bundle)
    return _is_row(bundle, 2, value)


def _is_row(bundle, whole, thing):
    """Whether any thing is the ROW of a WEIGHING with this D."""
    names, clauses = bundle
    if not isinstance(thing, tuple) or len(thing) != names:
        return False
    if not all([is_index(whole + 1, weight) for weight in thing]):
        return False
    return all([_weight_of(clause, whole, thing) <= whole for clause in clauses])


def _weight_of(clause, whole, row):
    """What the LITERALS of a CLAUSE weigh together."""
    return sum([row[literal - 1] if literal > 0 else whole - row[-literal - 1]
                for literal in clause])


def all_halves(bundle):
    """The ascending tuple of all HALVES."""
    names, clauses = need_bundle(bundle)
    # Four bits for each CLAUSE hold what it weighs; with one more, 3 and 4 have the bit of 4.
    ones = sum([1 << 4 * at for at in range(len(clauses))])
    rows = [((), 0)]
    for name in range(1, names + 1):
        straight = _places_with(clauses, name)
        contrary = _places_with(clauses, -name)
        steps = [(0, 2 * contrary), (1, straight + contrary), (2, 2 * straight)]
        rows = [((*row, weight), load + further) for row, load in rows for weight, further in steps
                if (load + further + ones) & ones << 2 == 0]
    return tuple([row for row, _ in rows])


def _places_with(clauses, literal):
    """A 1 in the four bits of each CLAUSE that has this LITERAL."""
    return sum([1 << 4 * at for at, clause in enumerate(clauses) if literal in clause])


def rounded(bundle, weighing):
    """A WEIGHING rounded: 2 for more than half of its D, 0 for less, 1 for just half."""
    need_bundle(bundle)
    if not _is_weighing(bundle, weighing):
        raise BadWeighing(weighing)
    whole, row = weighing
    return tuple([_rounded_weight(whole, weight) for weight in row])


def _rounded_weight(whole, weight):
    """2 for more than half of the whole, 0 for less, 1 for just half."""
    if 2 * weight == whole:
        return 1
    return 2 if 2 * weight > whole else 0


def _is_weighing(bundle, thing):
    """Whether any thing is a WEIGHING of the BUNDLE."""
    if not is_pair(thing):
        return False
    whole, row = thing
    return is_integer(whole) and whole >= 1 and _is_row(bundle, whole, row)


def halves_paper(bundle):
    """The PAPER on whether there are HALVES."""
    _, clauses = need_bundle(bundle)
    reached = reached_bits(clauses)
    hefts = _hefts_by(clauses, reached)
    if hefts is not None:
        return "clash", hefts
    return "halves", _row_by(bundle, reached)


def clashing_hefts(clauses):
    """HEFTS of CLAUSES that clash, or None if there are HALVES."""
    return _hefts_by(clauses, reached_bits(clauses))


def _hefts_by(clauses, reached):
    """HEFTS that clash, or None; by the bits of what is reached from each LITERAL.

    A way from a LITERAL's contrary one to itself tells, its CLAUSES added up, that this LITERAL
    weighs half of D or more. So no CLAUSE may have three such LITERALS: twice this CLAUSE, and
    once each CLAUSE of the three ways, clash. Without such a CLAUSE there are HALVES.
    """
    heavy = bits_of([literal for literal in LITERALS if reached[-literal] & LITERAL_BITS[literal]])
    for number, clause in enumerate(clauses):
        three = [literal for literal in clause if heavy & LITERAL_BITS[literal]][:3]
        if len(three) == 3:
            hefts = [0 for _ in clauses]
            hefts[number] = 2
            for literal in three:
                for _, at in shortest_way(clauses, -literal, literal):
                    hefts[at] += 1
            return tuple(hefts)
    return None


def _row_by(bundle, reached):
    """HALVES, where no CLAUSE has three LITERALS that weigh half of D or more by each WEIGHING.

    A name weighs 1 if it, and its contrary one, have to weigh half of D. Of any other name a
    LITERAL that does not lead to its contrary one weighs 2, and what it leads to.
    """
    names, _ = bundle
    row = [None for _ in range(names)]
    for name in range(1, names + 1):
        light = not reached[name] & LITERAL_BITS[-name]
        if not light and reached[-name] & LITERAL_BITS[name]:
            row[name - 1] = 1
        elif row[name - 1] is None:
            literal = name if light else -name
            for heavy in row_of_bits(reached[literal] | LITERAL_BITS[literal]):
                row[abs(heavy) - 1] = 2 if heavy > 0 else 0
    return tuple(row)


def check_halves(bundle, paper):
    """The first word of a PAPER on whether there are HALVES, if it holds."""
    need_bundle(bundle)
    if not is_worded_pair(("halves", "clash"), paper):
        raise BadPaper("form")
    word, thing = paper
    if word == "halves" and not _is_row(bundle, 2, thing):
        raise BadPaper("halves")
    if word == "clash" and not _do_clash(bundle, thing):
        raise BadPaper("clash")
    return word


def _do_clash(bundle, thing):
    """Whether any thing is HEFTS that clash."""
    names, clauses = bundle
    if not isinstance(thing, tuple) or len(thing) != len(clauses):
        return False
    if not all([is_index(10 ** 60, heft) for heft in thing]):
        return False
    taken = [min(_hefts_with(clauses, thing, name), _hefts_with(clauses, thing, -name))
             for name in range(1, names + 1)]
    return sum(taken) > sum(thing)


def _hefts_with(clauses, hefts, literal):
    """The HEFTS of all CLAUSES with a LITERAL, together."""
    return sum([heft for clause, heft in zip(clauses, hefts) if literal in clause])


def tidy_by(bundle, row):
    """The SETTING that makes true the LITERALS that weigh 0 by HALVES."""
    need_bundle(bundle)
    if not _is_row(bundle, 2, row):
        raise BadHalves(row)
    return tuple([name if weight == 0 else -name for name, weight in enumerate(row, 1)
                  if weight != 1])
