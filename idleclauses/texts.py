"""The texts of TERMS and of BUNDLES: telling them, and reading them."""

from idleclauses.bundles import need_bundle
from idleclauses.errors import BadText
from idleclauses.forms import MOST_CLAUSES, MOST_NAMES
from idleclauses.terms import MOST_WORDS, SHAPES, kids_by, need_term
from idleclauses.words import Words, lines_of


def term_text(term):
    """The text of a TERM."""
    return " ".join(_words_of(need_term(term)))


def _words_of(term):
    """The words of the text of a TERM."""
    kids = kids_by(term)
    words = [term[0]]
    for thing in term[1 + len(kids):]:
        words += texts_of(thing, [str(len(thing))]) if isinstance(thing, tuple) else [str(thing)]
    for kid in kids:
        words += _words_of(kid)
    return words


def texts_of(integers, ahead):
    """The words ahead, and behind them the texts of integers."""
    return [*ahead, *[str(integer) for integer in integers]]


def bundle_text(bundle):
    """The text of a BUNDLE."""
    names, clauses = need_bundle(bundle)
    rows = [" ".join(texts_of(clause, ["clause"])) for clause in clauses]
    return "\n".join([f"names {names}", *rows])


def read_term(text):
    """The TERM that has this text."""
    lines = lines_of(text)
    term = term_in_line(lines[0])
    if len(lines) > 1:
        raise BadText(1, 0)
    return need_term(term)


def term_in_line(line):
    """What the first line of a text tells, which has the form of a TERM's text."""
    words = Words(0, line)
    heads = []
    term = _next_term(words, heads)
    words.need_end()
    return term


def _next_term(words, heads):
    """What the next words tell; heads are the words that began a TERM ahead of it."""
    wanted = list(SHAPES) if len(heads) < MOST_WORDS else []
    head = words.next_of(wanted)
    heads.append(head)
    many_kids, many_integers, many_rows = SHAPES[head]
    integers = [words.next_integer() for _ in range(many_integers)]
    rows = [words.next_row() for _ in range(many_rows)]
    kids = [_next_term(words, heads) for _ in range(many_kids)]
    return (head, *kids, *integers, *rows)


def read_bundle(text):
    """The BUNDLE that has this text."""
    lines = lines_of(text)
    words = Words(0, lines[0])
    words.next_of(["names"])
    names = words.next_integer()
    words.need_end()
    clauses = [_clause_in_line(at, line) for at, line in enumerate(lines[:MOST_CLAUSES + 1]) if at > 0]
    if len(lines) > MOST_CLAUSES + 1:
        raise BadText(MOST_CLAUSES + 1, 0)
    return need_bundle((names, tuple(clauses)))


def _clause_in_line(at, line):
    """The integers of a line of a CLAUSE."""
    words = Words(at, line)
    words.next_of(["clause"])
    integers = []
    while len(integers) < MOST_NAMES and not words.is_read():
        integers.append(words.next_integer())
    words.need_end()
    return tuple(integers)
