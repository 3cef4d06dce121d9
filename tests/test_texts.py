"""The functions of idleclauses.texts: points [34] and [35]."""

import unittest

from idleclauses.errors import BadBundle, BadTerm, BadText
from idleclauses.terms import need_term
from idleclauses.texts import bundle_text, read_bundle, read_term, term_text
from tests.helper import (
    Case, all_rows, named_bundles, odd_integers, odd_things, odd_tuples, small_bundles, some_bundles,
)
from tests.opinions_terms import KIDS, drawn_terms, good_terms, term_verdict
from tests.opinions_texts import (
    bundle_text_verdict, changed_texts, read_verdict, text_of_bundle, text_of_term,
)

A = ("clause", 1, (1,))
A_TEXT = "clause 1 1 1"
ODD = odd_things() + odd_tuples() + odd_integers() + [0, 1, ()]
NO_STRINGS = [thing for thing in ODD if not isinstance(thing, str)]
EACH = [
    (("clause", 3, (1, -2)), "clause 3 2 1 -2"), (("clause", 3, ()), "clause 3 0"),
    (("one", 3, (1, -2, 3)), "one 3 3 1 -2 3"), (("most", 2, (-1, 2)), "most 2 2 -1 2"),
    (("same", 4, -4, 2), "same 4 -4 2"), (("both", A, ("clause", 2, ())), "both clause 1 1 1 clause 2 0"),
    (("beside", ("clause", 2, ()), A), "beside clause 2 0 clause 1 1 1"),
    (("either", A, A), "either clause 1 1 1 clause 1 1 1"), (("turned", A, (1,)), "turned 1 1 clause 1 1 1"),
    (("crossed", A, ()), "crossed 0 clause 1 1 1"), (("set", A, (-1,)), "set 1 -1 clause 1 1 1"),
    (("merged", ("clause", 3, (1,)), 2, 3), "merged 2 3 clause 3 1 1"),
    (("without", A, (0,)), "without 1 0 clause 1 1 1"),
]


def leaves(many):
    """A text of words "both" with so many TERMS in all."""
    if many == 1:
        return A_TEXT
    return f"both {leaves(many // 2)} {leaves(many - many // 2)}"


class TextCase(Case):
    def assert_bad_text(self, line, word, action, text):
        """It is refused at this word of this line; twice, and nothing is changed."""
        for _ in range(2):
            with self.assertRaises(BadText, msg=f"{action.__name__}{text!r:.200}") as caught:
                action(text)
            error = caught.exception
            self.assertIs(error.__class__, BadText)
            self.assertEqual(vars(error), {"line": line, "word": word}, f"{text!r:.300}")

    def assert_as_read(self, verdict, action, text):
        """It is read, or refused, as the second opinion has it."""
        word, wanted = verdict
        if word == "told":
            self.assert_told(wanted, action, text)
        elif word == "text":
            self.assert_bad_text(*wanted, action, text)
        else:
            self.assert_refused({"path": BadTerm, "part": BadBundle}[word], word, wanted, action, text)
        return word


class TermText(TextCase):
    def test_each_word(self):
        self.assertEqual({term[0] for term, _ in EACH}, set(KIDS))
        for term, text in EACH:
            self.assert_told(text, term_text, term)
            self.assert_told(term, read_term, text)

    def test_drawn_terms_are_read_to_the_same(self):
        for term, _ in good_terms(1200):
            text = self.assert_same_again(term_text, term)
            self.assertEqual(text, text_of_term(term))
            self.assert_told(term, read_term, text)
            self.assertEqual(repr(read_term(text)), repr(term))

    def test_no_terms(self):
        for term in drawn_terms(1200):
            verdict, path = term_verdict(term)
            if verdict == "path":
                self.assert_refused(BadTerm, "path", path, term_text, term)
                self.assert_refused(BadTerm, "path", path, read_term, text_of_term(term))
        for thing in ODD + [A_TEXT, list(A), ("clause", 1), ("both", A, None)]:
            verdict, path = term_verdict(thing)
            if verdict == "path":
                self.assert_refused(BadTerm, "path", path, term_text, thing)


class BundleText(TextCase):
    def test_ordinary(self):
        self.assert_told("names 3", bundle_text, (3, ()))
        self.assert_told("names 1\nclause", bundle_text, (1, ((),)))
        self.assert_told("names 3\nclause\nclause -1 2\nclause 1 2 -3", bundle_text, (3, ((), (-1, 2), (1, 2, -3))))
        self.assert_told("names 7\nclause 1 2 3 4 5 6 7", bundle_text, (7, ((1, 2, 3, 4, 5, 6, 7),)))

    def test_bundles_are_read_to_the_same(self):
        for bundle in small_bundles() + named_bundles() + some_bundles(100):
            text = self.assert_same_again(bundle_text, bundle)
            self.assertEqual(text, text_of_bundle(bundle))
            self.assert_told(bundle, read_bundle, text)

    def test_bundle_needed(self):
        self.assert_needs_bundle(bundle_text)


class ReadTerm(TextCase):
    def test_no_string(self):
        for thing in NO_STRINGS:
            self.assert_bad_text(None, None, read_term, thing)

    def test_ordinary_faults(self):
        for line, word, text in (
                (0, 0, ""), (0, 0, " "), (0, 0, "x"), (0, 0, "Clause 1 0"), (0, 0, " clause 1 0"), (0, 1, "clause"),
                (0, 1, "clause "), (0, 1, "clause x"), (0, 2, "clause 1"), (0, 2, "clause 1 "), (0, 2, "clause 1 x"),
                (0, 3, "clause 1 1"), (0, 3, "clause 1 0 "), (0, 3, "clause 1 0 1"), (0, 4, "clause 1 1 1 1"),
                (0, 1, "clause  1 0"), (0, 2, "clause 1  0"), (1, 0, "clause 1 0\n"), (1, 0, "clause 1 0\nclause 1 0"),
                (1, 0, "clause 1 0\n\n\n"), (0, 3, "clause 1 0 \n"), (0, 0, "\n"), (0, 0, "\nclause 1 0"),
                (0, 3, "same 3 1"), (0, 4, "same 3 1 2 3"), (0, 1, "both"), (0, 4, "both clause 1 0"),
                (0, 7, "both clause 1 0 clause 1 0 clause 1 0"), (0, 1, "both 1"), (0, 2, "turned 0"),
                (0, 3, "turned 1 1"), (0, 2, "turned 1 clause 1 0"), (0, 2, "merged 1 clause 1 0"),
                (0, 1, "merged clause 1 0"), (0, 3, "merged 1 2 3 clause 1 0")):
            self.assert_bad_text(line, word, read_term, text)

    def test_integers(self):
        for word in ("-0", "00", "01", "-01", "+1", "1.0", "1e1", "1_0", "", "-", "--1", "0x1", "one", "1-", "- 1",
                     "9" * 32, "-" + "9" * 32, "0" * 31, " ", "\t", "1\t", "\u0663", "\u00b2", "1\u0663"):
            self.assert_bad_text(0, 1, read_term, f"clause {word} 0")
            self.assert_bad_text(0, 3, read_term, f"clause 1 1 {word}")
            self.assert_bad_text(0, 1, read_term, f"merged {word} 2 clause 2 0")
            self.assert_bad_text(0, 2, read_term, f"turned 1 {word} clause 2 0")
        for word in ("0", "8", "-1", "9" * 31, "-" + "9" * 31, "1" + "0" * 30, "10"):
            self.assert_refused(BadTerm, "path", (), read_term, f"clause {word} 0")
            self.assert_refused(BadTerm, "path", (), read_term, f"merged 1 {word} {A_TEXT}")
            self.assert_refused(BadTerm, "path", (2,), read_term, f"both {A_TEXT} clause 7 2 {word} 0")

    def test_how_many_from_0_to_16(self):
        for many in range(17):
            row = " ".join(["0"] * many)
            text = " ".join(["without", str(many), *["0"] * many, "clause 1 0"])
            self.assertNotEqual(self.assert_as_read(read_verdict(text), read_term, text), "text")
            text = f"clause 7 {many} {row}".strip()
            self.assertNotEqual(self.assert_as_read(read_verdict(text), read_term, text), "text")
        for word in ("17", "-1", "-0", "00", "016", "100", "x", "", "1" * 31):
            self.assert_bad_text(0, 2, read_term, f"clause 7 {word} 1 2 3 4 5 6 7")
            self.assert_bad_text(0, 1, read_term, f"turned {word} clause 1 0")
            self.assert_bad_text(0, 1, read_term, f"without {word} clause 1 0")
        row = " ".join(map(str, range(16)))
        self.assert_refused(BadTerm, "path", (), read_term, f"without 16 {row} {A_TEXT}")
        self.assert_refused(BadTerm, "path", (), read_term, f"clause 7 16 {row}")

    def test_20_words_and_21(self):
        self.assertEqual(read_term(leaves(10))[0], "both")
        self.assertEqual(read_term(f"turned 0 {leaves(10)}")[0], "turned")
        text = leaves(11)
        places = [at for at, word in enumerate(text.split(" ")) if word in KIDS]
        self.assertEqual(len(places), 21)
        self.assert_bad_text(0, places[20], read_term, text)
        self.assert_bad_text(0, places[20], read_term, text + " x")
        self.assert_bad_text(0, 20, read_term, " ".join(["both"] * 20))
        self.assert_bad_text(0, 20, read_term, " ".join(["both"] * 21))
        self.assert_bad_text(0, 20, read_term, " ".join(["both"] * 3000))
        self.assert_bad_text(0, 19, read_term, " ".join(["both"] * 19))
        self.assert_bad_text(0, 40, read_term, " ".join(["turned 0"] * 25))

    def test_8_within_one_another_and_9(self):
        for many in range(8):
            self.assert_same_again(read_term, "turned 0 " * many + A_TEXT)
        for many in range(8, 20):
            self.assert_refused(BadTerm, "path", (), read_term, "turned 0 " * many + A_TEXT)

    def test_form_ahead_of_what_is_no_term(self):
        self.assert_bad_text(0, 6, read_term, "both clause 9 0 clause 1")
        self.assert_bad_text(0, 4, read_term, "clause 9 1 5 5")
        self.assert_bad_text(1, 0, read_term, "clause 9 0\n")
        self.assert_bad_text(0, 3, read_term, "clause 9 1\n")
        self.assert_refused(BadTerm, "path", (1,), read_term, "both clause 9 0 clause 9 0")
        self.assert_refused(BadTerm, "path", (2,), read_term, f"both turned 1 2 {A_TEXT} clause 9 0")

    def test_changed_at_any_place(self):
        told = {}
        for text in [text for _, text in EACH] + ["both turned 1 1 one 2 2 1 -2 merged 1 2 same 3 1 -2"]:
            for other in changed_texts(text):
                word = self.assert_as_read(read_verdict(other), read_term, other)
                told[word] = told.get(word, 0) + 1
        for word in ("told", "text", "path"):
            self.assertGreater(told[word], 50)

    def test_what_is_read_is_a_term(self):
        for _, text in EACH:
            term = read_term(text)
            self.assertIs(need_term(term), term)


class ReadBundle(TextCase):
    def test_no_string(self):
        for thing in NO_STRINGS:
            self.assert_bad_text(None, None, read_bundle, thing)

    def test_ordinary_faults(self):
        for line, word, text in (
                (0, 0, ""), (0, 0, "\n"), (0, 0, "x"), (0, 0, "clause 1"), (0, 0, "Names 3"), (0, 0, " names 3"),
                (0, 1, "names"), (0, 1, "names "), (0, 1, "names x"), (0, 1, "names\nclause"), (0, 2, "names 3 "),
                (0, 2, "names 3 4"), (0, 1, "names  3"), (1, 0, "names 3\n"), (1, 0, "names 3\n\nclause"),
                (1, 0, "names 3\nnames 3"), (2, 0, "names 3\nclause\n"), (1, 1, "names 3\nclause "),
                (1, 1, "names 3\nclause x"), (1, 2, "names 3\nclause 1 "), (1, 2, "names 3\nclause 1 x\n"),
                (1, 1, "names 3\nclause  1"), (1, 0, "names 3\nclauses 1"), (1, 0, "names 3\n clause 1")):
            self.assert_bad_text(line, word, read_bundle, text)

    def test_integers(self):
        for word in ("-0", "00", "01", "-01", "+1", "1.0", "", "-", "9" * 32, "-" + "9" * 32, "x"):
            self.assert_bad_text(0, 1, read_bundle, f"names {word}")
            self.assert_bad_text(1, 2, read_bundle, f"names 3\nclause 1 {word}")
            self.assert_bad_text(2, 1, read_bundle, f"names 3\nclause 1\nclause {word} 2")
        for word in ("0", "8", "-1", "9" * 31, "-" + "9" * 31):
            self.assert_refused(BadBundle, "part", "names", read_bundle, f"names {word}")
            self.assert_refused(BadBundle, "part", 0, read_bundle, f"names 7\nclause 7 {word}")

    def test_7_integers_and_8(self):
        self.assert_told((7, ((1, 2, 3, 4, 5, 6, 7),)), read_bundle, "names 7\nclause 1 2 3 4 5 6 7")
        self.assert_bad_text(1, 8, read_bundle, "names 7\nclause 1 2 3 4 5 6 7 8")
        self.assert_bad_text(1, 8, read_bundle, "names 7\nclause 1 2 3 4 5 6 7 x")
        self.assert_bad_text(1, 8, read_bundle, "names 7\nclause 1 2 3 4 5 6 7 ")
        self.assert_refused(BadBundle, "part", 0, read_bundle, "names 7\nclause 1 1 1 1 1 1 1")

    def test_16_lines_and_17(self):
        rows = sorted(all_rows(3))
        for many in range(20):
            bundle = (3, tuple(rows[:many]))
            if many <= 16:
                self.assert_told(bundle, read_bundle, text_of_bundle(bundle))
            else:
                self.assert_bad_text(17, 0, read_bundle, text_of_bundle(bundle))
        sixteen = text_of_bundle((3, tuple(rows[:16])))
        self.assert_bad_text(17, 0, read_bundle, sixteen + "\n")
        self.assert_bad_text(17, 0, read_bundle, sixteen + "\nx\ny")
        self.assert_bad_text(16, 1, read_bundle, "\n".join(sixteen.split("\n")[:16] + ["clause x", "clause"]))
        self.assert_bad_text(17, 0, read_bundle, "names 3" + "\nclause" * 17)
        self.assert_bad_text(17, 0, read_bundle, "names 9" + "\nclause" * 2000)
        self.assert_refused(BadBundle, "part", 1, read_bundle, "names 3" + "\nclause" * 16)

    def test_what_has_the_form_and_is_no_bundle(self):
        for part, text in (("names", "names 0"), ("names", "names 8\nclause 9"), (0, "names 3\nclause 4"),
                           (0, "names 3\nclause 2 1"), (1, "names 3\nclause 1\nclause 1"), (0, "names 3\nclause 0"),
                           (1, "names 3\nclause 1\nclause"), (2, "names 2\nclause\nclause 1\nclause -1")):
            self.assert_refused(BadBundle, "part", part, read_bundle, text)
        self.assert_bad_text(2, 0, read_bundle, "names 8\nclause 9\n")

    def test_changed_at_any_place(self):
        told = {}
        for text in ("names 3", "names 2\nclause\nclause -1 2\nclause 2", "names 7\nclause 1 -2 3 -4 5 -6 7"):
            for other in changed_texts(text):
                word = self.assert_as_read(bundle_text_verdict(other), read_bundle, other)
                told[word] = told.get(word, 0) + 1
        for word in ("told", "text", "part"):
            self.assertGreater(told[word], 20)


if __name__ == "__main__":
    unittest.main()
