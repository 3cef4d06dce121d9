"""Ways from a LITERAL to the contrary ones of those that stand beside it in a CLAUSE, and so on.

By a PLAIN READING what a way leads to is UP, where the LITERAL is from which it comes; by a
WEIGHING it weighs no less.
"""

from idleclauses.codes import LITERALS, LITERAL_BITS, bits_of, contrary_bits


def shortest_way(clauses, start, goal):
    """As few pairs as lead from a LITERAL to another one, or None."""
    ways = {start: ()}
    newest = [start]
    while newest and goal not in ways:
        further = []
        for literal in newest:
            for follower, number in _followers(clauses, literal):
                if follower not in ways:
                    ways[follower] = (*ways[literal], (literal, number))
                    if follower == goal:
                        return ways[goal]
                    further.append(follower)
        newest = further
    return ways.get(goal)


def _followers(clauses, literal):
    """Pairs of a LITERAL that has to be UP if this one is, and the number of the CLAUSE."""
    return [(-other, at) for at, clause in enumerate(clauses) if literal in clause
            for other in clause if other != literal]


def reached_bits(clauses):
    """For each LITERAL the bits of those to which a way of one pair or more leads."""
    beside = {literal: 0 for literal in LITERALS}
    for clause in clauses:
        row = bits_of(clause)
        for literal in clause:
            beside[literal] |= row ^ LITERAL_BITS[literal]
    reached = {literal: contrary_bits(bits) for literal, bits in beside.items()}
    for between in LITERALS:
        bit = LITERAL_BITS[between]
        further = reached[between]
        if further != 0:
            reached = {literal: bits | further if bits & bit else bits
                       for literal, bits in reached.items()}
    return reached
