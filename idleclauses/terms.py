"""TERMS, a language of BUNDLES: which things are TERMS, and which BUNDLE each one has."""

from idleclauses.bundles import crossed, without_all
from idleclauses.errors import BadLot, BadNumber, BadNumbers, BadSetting, BadTerm, TooMany
from idleclauses.forms import (
    MOST_CLAUSES, MOST_NAMES, gathered, is_literal, is_literal_row, is_lot, is_name, is_names,
    is_numbers, row_of,
)
from idleclauses.made import beside_of, both_of, either_of, merged, set_to
from idleclauses.readings import read_by

MOST_WORDS = 20
MOST_WITHIN = 8
# For each word how many TERMS stand behind it, then how many integers, then how many rows of them.
SHAPES = {
    "clause": (0, 1, 1), "one": (0, 1, 1), "most": (0, 1, 1), "same": (0, 3, 0),
    "both": (2, 0, 0), "beside": (2, 0, 0), "either": (2, 0, 0),
    "turned": (1, 0, 1), "crossed": (1, 0, 1), "set": (1, 0, 1), "merged": (1, 2, 0),
    "without": (1, 0, 1),
}


def need_term(thing):
    """Itself, if it is a TERM."""
    bundle_of(thing)
    return thing


def kids_of(term):
    """The TERMS that stand in a TERM itself, from left to right."""
    need_term(term)
    return kids_by(term)


def kids_by(term):
    """The things that stand in it itself in the place of TERMS, of what has the form of a TERM."""
    return term[1:1 + SHAPES[term[0]][0]]


def bundle_of(term):
    """The BUNDLE of a TERM."""
    _check_forms(term)
    return _made_at((), term)


def _check_forms(thing):
    """Refuses the first thing, the whole ahead of its TERMS, that has not the form of a TERM."""
    left = [((), thing)]
    words = 0
    while left:
        path, part = left.pop()
        words += 1
        if words > MOST_WORDS or len(path) >= MOST_WITHIN:
            raise BadTerm(())
        if not _has_form(part):
            raise BadTerm(path)
        kids = [((*path, at), kid) for at, kid in enumerate(kids_by(part), 1)]
        left += kids[::-1]


def _has_form(thing):
    """Whether any thing is a word with what it wants, things of any form in the place of TERMS."""
    if not isinstance(thing, tuple) or thing == () or not isinstance(thing[0], str):
        return False
    word = thing[0]
    if word not in SHAPES or len(thing) != 1 + sum(SHAPES[word]):
        return False
    return _do_fit(word, thing[1 + SHAPES[word][0]:])


def _do_fit(word, things):
    """Whether any things behind a word, and behind its TERMS, are such as this word may have."""
    if word in ("clause", "one", "most"):
        names, clause = things
        if not is_names(names) or not is_literal_row(names, clause):
            return False
        return word == "clause" or 2 <= len(clause) <= 5
    if word == "same":
        names, one, other = things
        if not is_names(names) or not is_literal(names, one) or not is_literal(names, other):
            return False
        return abs(one) != abs(other)
    if word in ("turned", "crossed"):
        return is_lot(MOST_NAMES, things[0])
    if word == "set":
        return is_literal_row(MOST_NAMES, things[0])
    if word == "merged":
        one, other = things
        return is_name(MOST_NAMES, one) and is_name(MOST_NAMES, other) and one < other
    return word != "without" or is_numbers(MOST_CLAUSES, things[0])


def _made_at(path, term):
    """The BUNDLE of what stands at a path, and has the form of a TERM."""
    bundles = [_made_at((*path, at), kid) for at, kid in enumerate(kids_by(term), 1)]
    try:
        return _made_of(term[0], bundles, term[1 + len(bundles):])
    except (BadLot, BadSetting, BadNumber, BadNumbers, TooMany):
        raise BadTerm(path) from None


def _made_of(word, bundles, things):
    """The BUNDLE of a word with the BUNDLES of its TERMS and the things behind them."""
    if len(bundles) == 0:
        return _made_of_things(word, things)
    if len(bundles) == 2:
        return _made_of_two(word, bundles[0], bundles[1])
    bundle = bundles[0]
    if word == "turned":
        return read_by(bundle, things[0])
    if word == "crossed":
        return crossed(bundle, things[0])
    if word == "set":
        return set_to(bundle, things[0])
    if word == "merged":
        return merged(bundle, things[0], things[1])
    return without_all(bundle, things[0])


def _made_of_things(word, things):
    """The BUNDLE of a word that has no TERMS."""
    if word == "same":
        names, one, other = things
        return gathered(names, [row_of([one, -other]), row_of([-one, other])])
    names, clause = things
    pairs = [(-one, -other) for at, other in enumerate(clause) for one in clause[:at]]
    if word == "one":
        return gathered(names, [clause, *pairs])
    if word == "most":
        return gathered(names, pairs)
    return names, (clause,)


def _made_of_two(word, bundle, other):
    """The BUNDLE of a word with the BUNDLES of two TERMS."""
    if word == "both":
        return both_of(bundle, other)
    if word == "beside":
        return beside_of(bundle, other)
    return either_of(bundle, other)
