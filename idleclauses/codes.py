"""LITERALS and whole SETTINGS as bits of integers, so that many are asked at once.

The bits of LITERALS: those of names are the lower ones, 8 above each that of its contrary one.
The code of a whole SETTING: name 1 is true if its lowest bit is 1, and so on. Codes are always
those of seven names, whichever a BUNDLE has.
"""

ALL_CODES = 0xFFFFFFFFFFFFFFFFFFFFFFFFFFFFFFFF

# In the next two a LITERAL is an index; those of contrary ones count from the end.
LITERAL_BITS = (0, 1, 2, 4, 8, 16, 32, 64, 16384, 8192, 4096, 2048, 1024, 512, 256)
# The codes by which the LITERAL is false, as bits.
FALSE_CODES = (
    0,
    0x55555555555555555555555555555555,
    0x33333333333333333333333333333333,
    0x0F0F0F0F0F0F0F0F0F0F0F0F0F0F0F0F,
    0x00FF00FF00FF00FF00FF00FF00FF00FF,
    0x0000FFFF0000FFFF0000FFFF0000FFFF,
    0x00000000FFFFFFFF00000000FFFFFFFF,
    0x0000000000000000FFFFFFFFFFFFFFFF,
    0xFFFFFFFFFFFFFFFF0000000000000000,
    0xFFFFFFFF00000000FFFFFFFF00000000,
    0xFFFF0000FFFF0000FFFF0000FFFF0000,
    0xFF00FF00FF00FF00FF00FF00FF00FF00,
    0xF0F0F0F0F0F0F0F0F0F0F0F0F0F0F0F0,
    0xCCCCCCCCCCCCCCCCCCCCCCCCCCCCCCCC,
    0xAAAAAAAAAAAAAAAAAAAAAAAAAAAAAAAA,
)
# As they stand in a CLAUSE.
LITERALS = (1, -1, 2, -2, 3, -3, 4, -4, 5, -5, 6, -6, 7, -7)


def bits_of(literals):
    """The bits of LITERALS."""
    bits = 0
    for literal in literals:
        bits |= LITERAL_BITS[literal]
    return bits


def contrary_bits(bits):
    """The bits of the contrary LITERALS."""
    return bits >> 8 | (bits & 127) << 8


def row_of_bits(bits):
    """The LITERALS of bits, as a CLAUSE or a SETTING has them."""
    return tuple([literal for literal in LITERALS if bits & LITERAL_BITS[literal]])


def missed_codes(clause):
    """The codes of the whole SETTINGS that do not meet a CLAUSE, as bits."""
    codes = ALL_CODES
    for literal in clause:
        codes &= FALSE_CODES[literal]
    return codes


def covered_codes(setting):
    """The codes of the whole SETTINGS that have all LITERALS of this one, as bits."""
    codes = ALL_CODES
    for literal in setting:
        codes &= FALSE_CODES[-literal]
    return codes


def missed_by_clauses(clauses):
    """The codes of the whole SETTINGS that do not meet all CLAUSES, as bits."""
    return together([missed_codes(clause) for clause in clauses])


def together(parts):
    """All bits of some bits."""
    found = 0
    for bits in parts:
        found |= bits
    return found


def how_many(bits):
    """How many bits there are."""
    return f"{bits:b}".count("1")


def others_together(parts):
    """For each of some bits those of all others together."""
    behind = 0
    found = []
    for bits in reversed(parts):
        found.append(behind)
        behind |= bits
    found = found[::-1]
    ahead = 0
    for at, bits in enumerate(parts):
        found[at] |= ahead
        ahead |= bits
    return found


def whole_setting_beside(names, codes):
    """The whole SETTING of so many names with the least code that is not among these, or None."""
    free = ALL_CODES & ~codes
    if free == 0:
        return None
    return setting_with_code(names, (free & -free).bit_length() - 1)


def setting_with_code(names, code):
    """The whole SETTING of so many names that has this code."""
    return tuple([name if code >> name - 1 & 1 else -name for name in range(1, names + 1)])
