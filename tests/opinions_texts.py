"""Second opinions on points 34 to 36, told as plainly as the document tells it.

None of this uses the program. A verdict is ("told", RESULT), ("text", (LINE, WORD)), ("path", PATH)
or ("part", PART).
"""

import re

from tests.helper import does_meet, whole_settings
from tests.opinions import is_row, is_tidy_setting, used_numbers
from tests.opinions_terms import KIDS, are_met, term_verdict, unmet_lots

INTEGER = re.compile("0|-?[1-9][0-9]{0,30}")
COUNTS = [str(k) for k in range(17)]
# What stands behind each word: T a TERM, i an integer, r a row of integers ahead of which is how many.
SHAPES = {
    "clause": "ir", "one": "ir", "most": "ir", "same": "iii", "both": "TT", "beside": "TT", "either": "TT",
    "turned": "rT", "crossed": "rT", "set": "rT", "merged": "iiT", "without": "rT",
}
SAYINGS = {"odds": "", "clauses": "i", "used": "*", "tidy": "*", "meets": "*", "follows": "*", "ease": "i"}


class Fault(Exception):
    """No text; the argument is the pair of the line and the word."""


def is_integer(word):
    """Whether a word is an integer by its form."""
    return INTEGER.fullmatch(word) is not None


def term_words(term):
    """The words of the text of a TERM."""
    word, *things = term
    kids, things = things[:KIDS[word]], things[KIDS[word]:]
    found = [word]
    for thing in things:
        found += [len(thing), *thing] if type(thing) is tuple else [thing]
    for kid in kids:
        found += term_words(kid)
    return [str(k) for k in found]


def text_of_term(term):
    """The text of a TERM."""
    return " ".join(term_words(term))


def text_of_bundle(bundle):
    """The text of a BUNDLE."""
    return "\n".join([f"names {bundle[0]}"] + [" ".join(["clause", *map(str, row)]) for row in bundle[1]])


def check_form(line, words):
    """Goes through the words of a TERM's line with all that is still to come."""
    wanted, heads, at = ["T"], 0, 0
    while wanted:
        want = wanted.pop()
        if at == len(words):
            raise Fault((line, at))
        word = words[at]
        if want == "T":
            heads += 1
            if word not in SHAPES or heads > 20:
                raise Fault((line, at))
            wanted += SHAPES[word][::-1]
        elif want == "r":
            if word not in COUNTS:
                raise Fault((line, at))
            wanted += "i" * int(word)
        elif not is_integer(word):
            raise Fault((line, at))
        at += 1
    if at < len(words):
        raise Fault((line, at))


def term_of(words):
    """The TERM of words that have the form, which are taken out one after another."""
    head, things, kids = words.pop(0), [], []
    for want in SHAPES[head]:
        if want == "T":
            kids.append(term_of(words))
        elif want == "i":
            things.append(int(words.pop(0)))
        else:
            things.append(tuple([int(words.pop(0)) for _ in range(int(words.pop(0)))]))
    return (head, *kids, *things)


def first_line(text):
    """The lines of a text, and what has the form of a TERM in the first one."""
    if type(text) is not str:
        raise Fault((None, None))
    lines = text.split("\n")
    words = lines[0].split(" ")
    check_form(0, words)
    return lines, term_of(words)


def read_verdict(text):
    """What read_term has to do."""
    try:
        lines, term = first_line(text)
        if len(lines) > 1:
            raise Fault((1, 0))
    except Fault as fault:
        return "text", fault.args[0]
    verdict, told = term_verdict(term)
    return ("told", term) if verdict == "told" else (verdict, told)


def bundle_verdict(thing):
    """What need_bundle has to do with a pair of an integer and a tuple of tuples of integers."""
    names, clauses = thing
    if not 1 <= names <= 7:
        return "part", "names"
    for at, row in enumerate(clauses):
        if not is_row(names, row) or at and row <= clauses[at - 1]:
            return "part", at
    return "told", thing


def bundle_text_verdict(text):
    """What read_bundle has to do."""
    if type(text) is not str:
        return "text", (None, None)
    found = []
    for line, row in enumerate(text.split("\n")):
        words = row.split(" ")
        if line == 17:
            return "text", (17, 0)
        if words[0] != ("clause" if line else "names"):
            return "text", (line, 0)
        for at, word in enumerate(words[1:], 1):
            if at > (7 if line else 1) or not is_integer(word):
                return "text", (line, at)
        if not line and len(words) == 1:
            return "text", (0, 1)
        found.append(tuple(int(word) for word in words[1:]))
    return bundle_verdict((found[0][0], tuple(found[1:])))


def sheet_verdict(text):
    """What judged has to do."""
    try:
        lines, term = first_line(text)
        sayings = [saying(at, line.split(" ")) for at, line in enumerate(lines) if at]
    except Fault as fault:
        return "text", fault.args[0]
    verdict, told = term_verdict(term)
    if verdict != "told":
        return verdict, told
    return "told", tuple(is_so(told, *row) for row in sayings)


def saying(line, words):
    """The pair of a SAYING's word and its integers."""
    if words[0] not in SAYINGS:
        raise Fault((line, 0))
    most = {"": 0, "i": 1, "*": len(words)}[SAYINGS[words[0]]]
    for at, word in enumerate(words[1:], 1):
        if at > most or not is_integer(word):
            raise Fault((line, at))
    if SAYINGS[words[0]] == "i" and len(words) == 1:
        raise Fault((line, 1))
    return words[0], tuple(int(word) for word in words[1:])


def is_so(bundle, word, given):
    """Whether a SAYING is so, by all TIDY SETTINGS and all whole SETTINGS."""
    names, clauses = bundle
    good = [setting for setting in whole_settings(names) if are_met(setting, clauses)]
    if word == "odds":
        return not good
    if word == "clauses":
        return len(clauses) == given[0]
    if word == "ease":
        return min(len(unmet) for unmet in unmet_lots(bundle)) == given[0]
    if not is_row(names, given):
        return False
    if word == "used":
        return given in [clauses[k] for k in used_numbers(bundle)]
    if word == "tidy":
        return is_tidy_setting(bundle, given)
    if word == "meets":
        return are_met(given, clauses)
    return all(does_meet(setting, given) for setting in good)


def changed_texts(text):
    """A text with one word, one space or one line feed otherwise, left out or put in."""
    lines = [line.split(" ") for line in text.split("\n")]
    others = ("", "x", "0", "-0", "00", "1", "-1", "01", "-01", "+1", "1.", "--1", "-", "1-", "7", "8", "-8",
              "16", "17", "9" * 31, "9" * 32, "-" + "1" * 31, "-" + "1" * 32, "clause", "both", "same", "odds",
              "names", "Clause", "clauses", "used", "ease", "_1", "1_0", "1e1", " ", "\n", "none", "merged")
    for at, words in enumerate(lines):
        for place in range(len(words) + 1):
            for other in others:
                yield join(lines[:at] + [words[:place] + [other] + words[place + 1:]] + lines[at + 1:])
            for other in others[:8]:
                yield join(lines[:at] + [words[:place] + [other] + words[place:]] + lines[at + 1:])
            yield join(lines[:at] + [words[:place] + words[place + 1:]] + lines[at + 1:])
            yield join(lines[:at] + [words[:place]] + lines[at + 1:])
            yield join(lines[:at] + [words[:place], words[place:]] + lines[at + 1:])
        yield join(lines[:at] + lines[at + 1:])
        yield join(lines[:at] + [words] + lines[at:])
        yield join(lines[:at] + [[]] + lines[at:])


def join(lines):
    """The text of lines of words."""
    return "\n".join(" ".join(words) for words in lines)
