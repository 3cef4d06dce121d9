"""The function of idleclauses.judge: point [36]."""

import random
import unittest

from idleclauses.easings import least_cost
from idleclauses.judge import judged
from idleclauses.terms import bundle_of
from tests.helper import all_rows
from tests.opinions import used_numbers
from tests.opinions_terms import good_terms, term_verdict
from tests.opinions_texts import SAYINGS, changed_texts, sheet_verdict, text_of_term
from tests.test_texts import NO_STRINGS, TextCase, leaves

# Three names; the clauses (-2), (-1, 2) and (1) are used, (2, -3) is not.
ODDS = "both both clause 2 1 -2 clause 1 1 1 both clause 2 2 -1 2 clause 3 2 2 -3"
SAME = "same 3 1 -3"


def said(text, *sayings):
    """A SHEET."""
    return "\n".join([text, *sayings])


class JudgedCase(TextCase):
    def assert_said(self, text, *pairs):
        """Each SAYING is so or not as told, alone and with all others."""
        sayings = [saying for saying, _ in pairs]
        wanted = tuple(is_so for _, is_so in pairs)
        self.assertEqual(sheet_verdict(said(text, *sayings)), ("told", wanted))
        self.assert_told(wanted, judged, said(text, *sayings))
        self.assert_told(wanted[::-1], judged, said(text, *sayings[::-1]))
        for saying, is_so in pairs:
            self.assert_told((is_so,), judged, said(text, saying))


class EachSort(JudgedCase):
    def test_no_sayings(self):
        for text in (ODDS, SAME, "clause 1 0"):
            self.assert_told((), judged, text)

    def test_odds(self):
        self.assert_said(ODDS, ("odds", True))
        self.assert_said(SAME, ("odds", False))
        self.assert_said("clause 1 0", ("odds", True))
        self.assert_said("without 1 0 clause 1 0", ("odds", False))

    def test_clauses(self):
        self.assertEqual(len(bundle_of(term_of(ODDS))[1]), 4)
        self.assert_said(ODDS, ("clauses 4", True), ("clauses 3", False), ("clauses 5", False), ("clauses -4", False),
                         ("clauses 0", False), ("clauses " + "9" * 31, False))
        self.assert_said("without 1 0 clause 1 0", ("clauses 0", True), ("clauses 1", False))

    def test_used(self):
        self.assert_said(ODDS, ("used -2", True), ("used 1", True), ("used -1 2", True), ("used 2 -3", False),
                         ("used 2", False), ("used", False), ("used 2 -1", False), ("used 1 1", False),
                         ("used -3 2", False), ("used 4", False), ("used 0", False), ("used 1 -1", False),
                         ("used " + "9" * 31, False), ("used 1 2 3 4 5 6 7 8 9", False))
        self.assert_said("clause 1 0", ("used", True), ("used 1", False))
        self.assert_said(SAME, ("used 1 3", False), ("used -1 -3", False), ("used", False))

    def test_tidy(self):
        self.assert_said(SAME, ("tidy", True), ("tidy 1 -3", True), ("tidy -1 3", True), ("tidy 1", False),
                         ("tidy 2", True), ("tidy -2", True), ("tidy 1 3", False), ("tidy 1 2 -3", True),
                         ("tidy -3 1", False), ("tidy 2 2", False), ("tidy 4", False), ("tidy 0", False))
        self.assert_said(ODDS, ("tidy", True), ("tidy -3", True), ("tidy 3", False), ("tidy 2", False))

    def test_meets(self):
        self.assert_said(SAME, ("meets 1 -3", True), ("meets -1 3", True), ("meets 1 2 -3", True), ("meets", False),
                         ("meets 2", False), ("meets 1", False), ("meets -3 1", False), ("meets 1 1 -3", False),
                         ("meets 1 -3 4", False), ("meets 0 1 -3", False))
        self.assert_said("without 1 0 clause 1 0", ("meets", True), ("meets 1", True), ("meets 2", False))
        self.assert_said("clause 1 0", ("meets", False), ("meets 1", False))

    def test_follows(self):
        self.assert_said(SAME, ("follows 1 3", True), ("follows 1 2 3", True), ("follows -1 2 -3", True),
                         ("follows 3 1", False), ("follows 1", False), ("follows", False), ("follows 1 -3", False),
                         ("follows 1 1 3", False), ("follows 1 3 4", False), ("follows 0 1 3", False))
        # Of what is at odds each clause of its names follows.
        self.assert_said(ODDS, ("follows", True), ("follows 3", True), ("follows 1 2 3", True), ("follows 4", False),
                         ("follows 3 2", False), ("follows 1 -1", False))

    def test_ease(self):
        self.assert_said(ODDS, ("ease 1", True), ("ease 0", False), ("ease 2", False), ("ease -1", False))
        self.assert_said(SAME, ("ease 0", True), ("ease 1", False))
        both = f"both clause 1 0 beside {short_odds()} both {short_odds()} clause 1 0"
        self.assert_said(both, ("ease 3", True), ("ease 2", False), ("ease 4", False))


def term_of(text):
    """The TERM of a text, read by the second opinion."""
    from tests.opinions_texts import read_verdict
    return read_verdict(text)[1]


def short_odds():
    """A text of what is at odds by one name."""
    return "both clause 1 1 1 clause 1 1 -1"


class Drawn(JudgedCase):
    def sayings(self, chance, bundle):
        """SAYINGS of each sort: of what is there, of what is nearly so, of what is not so."""
        names, clauses = bundle
        rows = [*clauses, *chance.sample(all_rows(names), 2), (), tuple(range(1, names + 2))]
        rows += [row[::-1] for row in rows[:2]] + [row[:1] + row for row in rows[:2]]
        rows += [tuple(-k for k in row) for row in clauses[:2]]
        found = ["odds"]
        for row in rows:
            for word in chance.sample(["used", "tidy", "meets", "follows"], 3):
                found.append(" ".join([word, *map(str, row)]))
        many, cost = len(clauses), least_cost(bundle, (1,) * len(clauses))
        for number in (-1, 0, 1):
            found += [f"clauses {many + number}", f"ease {cost + number}"]
        return chance.sample(found, len(found))

    def test_drawn_sheets(self):
        chance = random.Random(70)
        told = {}
        for term, bundle in good_terms(500):
            if len(used_numbers(bundle)) or chance.random() < 0.5:
                sayings = self.sayings(chance, bundle)
                text = said(text_of_term(term), *sayings)
                verdict, wanted = sheet_verdict(text)
                self.assertEqual(verdict, "told")
                self.assert_told(wanted, judged, text)
                for saying, is_so in zip(sayings, wanted):
                    key = saying.split(" ")[0], is_so
                    told[key] = told.get(key, 0) + 1
        for word in SAYINGS:
            for is_so in (True, False):
                self.assertGreater(told[word, is_so], 40, (word, is_so))

    def test_very_many_sayings(self):
        text = said(ODDS, *["odds", "clauses 4", "used -2", "meets", "ease 1"] * 300)
        self.assertLess(len(text), 20000)
        self.assert_told((True, True, True, False, True) * 300, judged, text)


class Faults(JudgedCase):
    def test_no_string(self):
        for thing in NO_STRINGS:
            self.assert_bad_text(None, None, judged, thing)

    def test_where(self):
        for line, word, text in (
                (0, 0, ""), (0, 0, "odds"), (0, 0, "\nodds"), (0, 1, "clause"), (0, 3, "clause 1 0 odds"),
                (1, 0, "clause 1 0\n"), (1, 0, "clause 1 0\n\nodds"), (2, 0, "clause 1 0\nodds\n"),
                (1, 1, "clause 1 0\nodds "), (1, 1, "clause 1 0\nodds 1"), (1, 0, "clause 1 0\n odds"),
                (1, 0, "clause 1 0\nOdds"), (1, 0, "clause 1 0\nclause 1 0"), (1, 0, "clause 1 0\nnone"),
                (1, 1, "clause 1 0\nclauses"), (1, 1, "clause 1 0\nclauses "), (1, 1, "clause 1 0\nclauses x"),
                (1, 2, "clause 1 0\nclauses 1 2"), (1, 2, "clause 1 0\nclauses 1 "), (1, 1, "clause 1 0\nease"),
                (1, 1, "clause 1 0\nease none"), (1, 2, "clause 1 0\nease 1 1"), (1, 1, "clause 1 0\nused "),
                (1, 2, "clause 1 0\nused 1 "), (1, 1, "clause 1 0\nused  1"), (1, 1, "clause 1 0\nmeets x"),
                (1, 3, "clause 1 0\ntidy 1 2 x 3"), (1, 1, "clause 1 0\nfollows none"),
                (2, 1, "clause 1 0\nused 1 2 3\nodds odds\nx"), (0, 2, "clause 1\nx")):
            self.assert_bad_text(line, word, judged, text)

    def test_integers(self):
        for word in ("-0", "00", "01", "-01", "+1", "1.0", "", "-", "9" * 32, "-" + "9" * 32, "x"):
            for saying in ("clauses", "ease", "used", "tidy", "meets", "follows"):
                self.assert_bad_text(1, 1, judged, said(ODDS, f"{saying} {word}"))
            for saying in ("used", "tidy", "meets", "follows"):
                self.assert_bad_text(2, 3, judged, said(ODDS, "odds", f"{saying} 1 2 {word} 3", "x"))
        for word in ("0", "9" * 31, "-" + "9" * 31, "-7"):
            for saying in ("clauses", "ease", "used", "meets"):
                self.assert_told((False,), judged, said(ODDS, f"{saying} {word}"))

    def test_lines_ahead_of_terms(self):
        no_term = "both clause 9 0 clause 1 0"
        self.assert_bad_text(1, 0, judged, no_term + "\n")
        self.assert_bad_text(3, 1, judged, said(no_term, "odds", "used 1", "odds 2"))
        self.assert_as_read(("path", (1,)), judged, no_term)
        self.assert_as_read(("path", (1,)), judged, said(no_term, "odds", "used 1"))
        self.assert_as_read(("path", ()), judged, said("turned 1 2 clause 1 0", "odds"))

    def test_20_words_and_21(self):
        self.assert_told((False,), judged, said(f"turned 0 {leaves(10)}", "odds"))
        text = leaves(11)
        wanted = sheet_verdict(said(text, "x"))
        self.assertEqual(wanted[0], "text")
        self.assertEqual(wanted[1][0], 0)
        self.assert_as_read(wanted, judged, said(text, "x"))
        self.assert_as_read(("path", ()), judged, said("turned 0 " * 8 + "clause 1 0", "odds"))
        self.assert_told((True,), judged, said("turned 0 " * 7 + "clause 1 0", "odds"))

    def test_changed_at_any_place(self):
        told = {}
        for text in (said("same 2 1 -2", "odds", "clauses 2", "used 1 2"),
                     said("both clause 1 1 1 clause 1 1 -1", "tidy", "meets 1", "follows -1", "ease 1")):
            for other in changed_texts(text):
                word = self.assert_as_read(sheet_verdict(other), judged, other)
                told[word] = told.get(word, 0) + 1
        for word in ("told", "text", "path"):
            self.assertGreater(told[word], 20)

    def test_helpers(self):
        self.assertEqual(term_verdict(term_of(ODDS))[0], "told")


if __name__ == "__main__":
    unittest.main()
