"""SHEETS: the text of a TERM, and SAYINGS of its BUNDLE, each of which is so or not."""

from idleclauses.codes import missed_by_clauses, missed_codes
from idleclauses.easings import least_cost_of_ones
from idleclauses.forms import is_literal_row
from idleclauses.kernels import kernel
from idleclauses.settings import is_at_odds, is_tidy, met
from idleclauses.terms import bundle_of
from idleclauses.texts import term_in_line
from idleclauses.words import Words, lines_of

# The words of SAYINGS, by what stands behind them: nothing, an integer, or any number of them.
ALONE = ("odds",)
WITH_INTEGER = ("clauses", "ease")
WITH_LITERALS = ("used", "tidy", "meets", "follows")


def judged(text):
    """For each SAYING of a SHEET whether it is so."""
    lines = lines_of(text)
    term = term_in_line(lines[0])
    sayings = [_saying_in_line(at, line) for at, line in enumerate(lines) if at > 0]
    bundle = bundle_of(term)
    return tuple([_is_so(bundle, word, given) for word, given in sayings])


def _saying_in_line(at, line):
    """The pair of a SAYING's word and the integers behind it."""
    words = Words(at, line)
    word = words.next_of(ALONE + WITH_INTEGER + WITH_LITERALS)
    given = ()
    if word in WITH_INTEGER:
        given = (words.next_integer(),)
    elif word in WITH_LITERALS:
        given = words.further_integers()
    words.need_end()
    return word, given


def _is_so(bundle, word, given):
    """Whether a SAYING is so of a BUNDLE."""
    names, clauses = bundle
    if word == "odds":
        return is_at_odds(bundle)
    if word == "clauses":
        return given == (len(clauses),)
    if word == "ease":
        return given == (least_cost_of_ones(bundle),)
    if not is_literal_row(names, given):
        return False
    if word == "used":
        return given in clauses and clauses.index(given) in kernel(bundle)
    if word == "tidy":
        return is_tidy(bundle, given)
    if word == "meets":
        return len(met(bundle, given)) == len(clauses)
    return missed_codes(given) & ~missed_by_clauses(clauses) == 0
