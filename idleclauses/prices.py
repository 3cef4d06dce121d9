"""What the CLAUSES cost that whole SETTINGS do not meet, for all whole SETTINGS at once.

A whole SETTING has its code as in codes.py, and a lane of 16 bits in an integer, that of the least
code being the lowest one. What all CLAUSES cost together has less bits than a lane.
"""

from idleclauses.errors import BadPrices
from idleclauses.bundles import need_bundle
from idleclauses.forms import is_index

MOST_PRICE = 1000
# More than any 16 CLAUSES cost together.
BEYOND_PRICES = 20000
# A 1 in each lane.
ALL_LANES = ((1 << 2048) - 1) // 0xFFFF
# A 1 in each lane by which the LITERAL is false. A LITERAL is an index; those of contrary ones
# count from the end. Of name 1 each second lane is true, of name 2 two of each four, and so on.
FALSE_LANES = (
    0,
    ((1 << 2048) - 1) // 0xFFFF // ((1 << 16) + 1),
    ((1 << 2048) - 1) // 0xFFFF // ((1 << 32) + 1),
    ((1 << 2048) - 1) // 0xFFFF // ((1 << 64) + 1),
    ((1 << 2048) - 1) // 0xFFFF // ((1 << 128) + 1),
    ((1 << 2048) - 1) // 0xFFFF // ((1 << 256) + 1),
    ((1 << 2048) - 1) // 0xFFFF // ((1 << 512) + 1),
    ((1 << 2048) - 1) // 0xFFFF // ((1 << 1024) + 1),
    ((1 << 2048) - 1) // 0xFFFF // ((1 << 1024) + 1) << 1024,
    ((1 << 2048) - 1) // 0xFFFF // ((1 << 512) + 1) << 512,
    ((1 << 2048) - 1) // 0xFFFF // ((1 << 256) + 1) << 256,
    ((1 << 2048) - 1) // 0xFFFF // ((1 << 128) + 1) << 128,
    ((1 << 2048) - 1) // 0xFFFF // ((1 << 64) + 1) << 64,
    ((1 << 2048) - 1) // 0xFFFF // ((1 << 32) + 1) << 32,
    ((1 << 2048) - 1) // 0xFFFF // ((1 << 16) + 1) << 16,
)


def need_prices(bundle, thing):
    """Itself, if they are PRICES of the BUNDLE."""
    _, clauses = need_bundle(bundle)
    if not isinstance(thing, tuple) or len(thing) != len(clauses):
        raise BadPrices(thing)
    if not all([is_index(MOST_PRICE + 1, price) for price in thing]):
        raise BadPrices(thing)
    return thing


def missed_lanes(names, clause):
    """A 1 in the lane of each whole SETTING of so many names that does not meet a CLAUSE."""
    lanes = ALL_LANES & (1 << (16 << names)) - 1
    for literal in clause:
        lanes &= FALSE_LANES[literal]
    return lanes


def costs_of(bundle, prices):
    """For each whole SETTING, in its lane, what the CLAUSES cost that it does not meet."""
    names, clauses = bundle
    return sum([missed_lanes(names, clause) * price for clause, price in zip(clauses, prices) if price])


def least_in(names, lanes):
    """The pair of the least cost in any lane, and of the least code that has it."""
    # Of hexadecimal numbers with as many figures each the least one is the first one as a string.
    figures = f"{lanes:x}".zfill(4 << names)
    rows = [figures[at:at + 4] for at in range(len(figures) - 4, -4, -4)]
    least = min(rows)
    return int(least, 16), rows.index(least)
