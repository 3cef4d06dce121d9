"""Forms of the document that any value may be asked for, and BUNDLES made in form."""

MOST_NAMES = 7
MOST_CLAUSES = 16


def is_integer(thing):
    """Whether it is an integer, True and False not being integers."""
    return isinstance(thing, int) and not isinstance(thing, bool)


def is_names(thing):
    """Whether it is NAMES: how many names a BUNDLE may have."""
    return is_integer(thing) and 1 <= thing <= MOST_NAMES


def is_literal(names, thing):
    """Whether it is a LITERAL of these NAMES."""
    return is_integer(thing) and 1 <= abs(thing) <= names


def is_name(names, thing):
    """Whether it is a name of these NAMES."""
    return is_integer(thing) and 1 <= thing <= names


def is_literal_row(names, thing):
    """Whether it is a tuple of LITERALS whose NAMES ascend: a CLAUSE, or a SETTING."""
    if not isinstance(thing, tuple):
        return False
    last = 0
    for literal in thing:
        # Asked for here, since this is asked most often: True is no LITERAL, though it is 1.
        if not isinstance(literal, int) or literal is True:
            return False
        name = abs(literal)
        if name <= last or name > names:
            return False
        last = name
    return True


def is_lot(names, thing):
    """Whether it is a LOT: an ascending tuple of names."""
    return is_literal_row(names, thing) and all([name > 0 for name in thing])


def is_index(many, thing):
    """Whether it is a number of one of so many things."""
    return isinstance(thing, int) and not isinstance(thing, bool) and 0 <= thing < many


def is_numbers(many, thing):
    """Whether it is an ascending tuple of numbers of some of so many things."""
    if not isinstance(thing, tuple):
        return False
    last = -1
    for number in thing:
        if not is_index(many, number) or number <= last:
            return False
        last = number
    return True


def is_pair(thing):
    """Whether it is a pair."""
    return isinstance(thing, tuple) and len(thing) == 2


def is_worded_pair(words, thing):
    """Whether it is a pair with one of these words first."""
    return is_pair(thing) and isinstance(thing[0], str) and thing[0] in words


def names_of(rows):
    """The LOT of all NAMES of the LITERALS in tuples of LITERALS."""
    return tuple(sorted({abs(literal) for row in rows for literal in row}))


def row_of(literals):
    """The tuple of LITERALS of unlike NAMES, as a CLAUSE or a SETTING has them."""
    return tuple(sorted(literals, key=abs))


def gathered(names, clauses):
    """The BUNDLE of these CLAUSES, ascending, of alike ones one."""
    return names, tuple(sorted(set(clauses)))
