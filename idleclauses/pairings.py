"""CLAUSES paired with names, as many as can be, and what spreads from those that are left over.

Holders are a dict: for each name that is paired the number of the CLAUSE that holds it.
"""


def paired(clauses):
    """Holders of as many names as can be."""
    holders = {}
    for number in range(len(clauses)):
        asked = {}
        _place(clauses, holders, number, asked)
    return holders


def _place(clauses, holders, number, asked):
    """Whether a CLAUSE can be given a name, by which others may have to take another one.

    Names that were asked for are not asked for again.
    """
    for literal in clauses[number]:
        name = abs(literal)
        if name not in asked:
            asked[name] = True
            if name not in holders or _place(clauses, holders, holders[name], asked):
                holders[name] = number
                return True
    return False


def are_all_paired(clauses):
    """Whether each CLAUSE can be given a name of its own."""
    return len(paired(clauses)) == len(clauses)


def spread(clauses, holders):
    """The ascending numbers of the CLAUSES to which it spreads, and a dict of the names.

    It spreads from the CLAUSES that hold no name to all names that they have, from these to the
    CLAUSES that hold them, and so on. The dict has for each such name the number of the CLAUSE
    from which it was reached first.
    """
    held = {number: True for number in holders.values()}
    numbers = [number for number in range(len(clauses)) if number not in held]
    sources = {}
    newest = numbers
    while newest:
        further = []
        for number in newest:
            for literal in clauses[number]:
                name = abs(literal)
                if name not in sources:
                    sources[name] = number
                    further.append(holders[name])
        numbers = numbers + further
        newest = further
    return tuple(sorted(numbers)), sources
