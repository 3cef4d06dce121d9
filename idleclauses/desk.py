"""A DESK: lines that lead a BENCH, and their answers."""

from idleclauses.bench import Bench
from idleclauses.easings import least_cost_of_ones
from idleclauses.errors import BadText, ClauseError, Missing, NothingLeft, TooMany
from idleclauses.settings import is_at_odds
from idleclauses.terms import bundle_of
from idleclauses.texts import read_term
from idleclauses.words import Words

ALONE = ("settle", "odds", "used", "ease", "undo", "deeds")
WITH_LITERALS = ("put", "strike")


class Desk:
    """A Bench with the BUNDLE of a TERM, led by lines."""

    def __init__(self, text):
        self.held = Bench(bundle_of(read_term(text)))

    @property
    def bench(self):
        """The very Bench that it leads."""
        return self.held

    def say(self, line):
        """The answer to a line, "no" to one that cannot be followed."""
        try:
            word, literals = _read(line)
            return _answered(self.held, word, literals)
        except (ClauseError, TooMany, Missing):
            return "no"


def _read(line):
    """The word of a line and the LITERALS behind it."""
    if not isinstance(line, str):
        raise BadText(None, None)
    words = Words(0, line)
    word = words.next_of(ALONE + WITH_LITERALS)
    literals = words.further_integers() if word in WITH_LITERALS else ()
    words.need_end()
    return word, literals


def _answered(bench, word, literals):
    """The answer of a Bench to a word with LITERALS."""
    if word == "put":
        return str(len(bench.put(literals)))
    if word == "strike":
        return str(len(bench.strike(literals)))
    if word == "settle":
        return _row_text(bench.settle(), "none")
    if word == "odds":
        return "yes" if is_at_odds(bench.bundle) else "no"
    if word == "used":
        return _used_text(bench)
    if word == "ease":
        return str(least_cost_of_ones(bench.bundle))
    if word == "undo":
        return _undone(bench)
    return str(len(bench))


def _row_text(literals, empty):
    """The LITERALS with single spaces between, or a word for none."""
    if literals == ():
        return empty
    return " ".join([str(literal) for literal in literals])


def _used_text(bench):
    """The USED CLAUSES, or "none"."""
    _, clauses = bench.bundle
    rows = [_row_text(clauses[number], "empty") for number in bench.kernel_now()]
    return ", ".join(rows) if rows else "none"


def _undone(bench):
    """The answer to "undo"."""
    try:
        bench.undo()
    except NothingLeft:
        return "nothing"
    return "done"
