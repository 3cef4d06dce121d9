"""The class of idleclauses.shelf: point [33]."""

import itertools
import random
import re
import unittest

from idleclauses.errors import BadLabel, BadTerm, Missing, TooMany
from idleclauses.shelf import Shelf
from tests.helper import AGREEING, Case, odd_integers, odd_things, odd_tuples, whole_settings
from tests.opinions_terms import are_met, good_terms

A = ("clause", 1, (1,))
B = ("clause", 2, (-1, 2))
ODD = odd_things() + odd_tuples() + odd_integers() + [0, 1, ()]
LABELS = ["a", "z", "ab", "ba", "abcdefgh", "zzzzzzzz", "aa", "b", "one", "clause"]
NO_LABELS = ["", "abcdefghi", "A", "a1", "a b", " a", "a ", "a\n", "\n", "aB", "a_", "-", "1", "z" * 9, "a" * 20000,
             "a.b", "`", "{", "\u00e9", "\u0430", "\u1d43", b"a", b"abc", ("a",), ["a"], {"a": 1}]


def filled(labels, term=A):
    """A SHELF with a TERM under each of some LABELS."""
    shelf = Shelf()
    for label in labels:
        shelf.put(label, term)
    return shelf


def many_labels(many):
    """So many LABELS."""
    return ["".join(letters) for letters in itertools.product("qrs", repeat=3)][:many]


class ShelfCase(Case):
    def same(self, shelf, rows):
        """All that a SHELF tells is as the dict of LABELS and TERMS has it."""
        for _ in range(2):
            self.assertEqual(shelf.labels(), tuple(sorted(rows)))
            self.assertEqual(len(shelf), len(rows))
            for label in [*rows, *LABELS]:
                self.assertIs(label in shelf, label in rows)
            for label in rows:
                self.assertEqual(repr(shelf.seek(label)), repr(rows[label]))


class PutTakeSeek(ShelfCase):
    def test_empty(self):
        shelf = Shelf()
        self.same(shelf, {})
        self.assert_told((), shelf.labels)
        self.assert_told((), shelf.alike)
        for label in LABELS:
            for action in (shelf.take, shelf.seek, shelf.stronger):
                self.assert_refused(Missing, "given", label, action, label)

    def test_ordinary(self):
        shelf, rows = Shelf(), {}
        for label in LABELS:
            self.assertIsNone(shelf.put(label, A))
            rows[label] = A
            self.same(shelf, rows)
        self.assertIs(shelf.seek("ab"), A)
        for label in ("ab", "z"):
            self.assertEqual(shelf.take(label), A)
            del rows[label]
            self.same(shelf, rows)
            for action in (shelf.take, shelf.seek, shelf.stronger):
                self.assert_refused(Missing, "given", label, action, label)

    def test_an_elder_one_anew(self):
        shelf = filled(["a", "b"])
        shelf.put("a", B)
        self.same(shelf, {"a": B, "b": A})
        self.assertEqual(shelf.take("a"), B)
        self.same(shelf, {"b": A})
        shelf.put("a", A)
        self.same(shelf, {"b": A, "a": A})

    def test_20_labels_and_one_more(self):
        labels = many_labels(21)
        shelf, rows = filled(labels[:20]), dict.fromkeys(labels[:20], A)
        self.same(shelf, rows)
        self.assert_refused(TooMany, "most", 20, shelf.put, labels[20], A)
        self.assert_refused(TooMany, "most", 20, shelf.put, "a", B)
        self.same(shelf, rows)
        for label in labels[:20]:
            self.assertIsNone(shelf.put(label, B))
            rows[label] = B
        self.same(shelf, rows)
        shelf.take(labels[7])
        shelf.put(labels[20], A)
        self.assert_refused(TooMany, "most", 20, shelf.put, labels[7], A)
        self.assertEqual(len(shelf), 20)

    def test_no_labels(self):
        full = filled(many_labels(20))
        for thing in ODD + NO_LABELS:
            if isinstance(thing, str) and re.fullmatch("[a-z]{1,8}", thing):
                continue
            for shelf in (Shelf(), filled(["a"]), full):
                ahead = shelf.labels()
                self.assert_refused(BadLabel, "given", thing, shelf.put, thing, A)
                self.assert_refused(BadLabel, "given", thing, shelf.put, thing, None)
                for action in (shelf.take, shelf.seek, shelf.stronger):
                    self.assert_refused(Missing, "given", thing, action, thing)
                self.assertIs(thing in shelf, False)
                self.assertEqual(shelf.labels(), ahead)

    def test_labels_of_1_to_8_letters_from_a_to_z(self):
        for letter in "abcdefghijklmnopqrstuvwxyz":
            for many in range(1, 11):
                shelf = Shelf()
                if many <= 8:
                    self.assertIsNone(shelf.put(letter * many, A))
                    self.assertIs(letter * many in shelf, True)
                else:
                    self.assert_refused(BadLabel, "given", letter * many, shelf.put, letter * many, A)

    def test_no_terms(self):
        full = filled(many_labels(20))
        for path, thing in (((), None), ((), ("clause", 8, ())), ((2,), ("both", A, ["clause", 1, ()])),
                            ((1,), ("both", ("turned", A, (2,)), A)), ((), AGREEING), ((), ("turned", A, (2,)))):
            for shelf in (Shelf(), filled(["a"]), full):
                ahead = shelf.labels()
                self.assert_refused(BadTerm, "path", path, shelf.put, "a", thing)
                self.assert_refused(BadTerm, "path", path, shelf.put, "new", thing)
                self.assertEqual(shelf.labels(), ahead)
        shelf = filled(["a"])
        self.assert_refused(BadTerm, "path", (), shelf.put, "a", 5)
        self.same(shelf, {"a": A})

    def test_missing_is_a_key_error(self):
        for thing in ("a", 5, None, ["a"]):
            with self.assertRaises(KeyError):
                Shelf().take(thing)


class Alike(ShelfCase):
    def test_ordinary(self):
        shelf = filled(["b"])
        shelf.put("c", ("both", A, A))
        shelf.put("d", B)
        shelf.put("a", ("turned", ("turned", A, (1,)), (1,)))
        shelf.put("e", ("clause", 2, (1,)))
        self.assert_told((("a", "b"), ("a", "c"), ("b", "c")), shelf.alike)
        shelf.put("b", ("turned", B, ()))
        self.assert_told((("a", "c"), ("b", "d")), shelf.alike)
        shelf.take("a")
        self.assert_told((("b", "d"),), shelf.alike)

    def test_drawn(self):
        for rows in drawn_shelves():
            shelf = Shelf()
            for label, (term, _) in rows.items():
                shelf.put(label, term)
            wanted = [(one, other) for one in rows for other in rows
                      if one < other and rows[one][1] == rows[other][1]]
            self.assert_told(tuple(sorted(wanted)), shelf.alike)
        self.assertTrue(wanted)


def drawn_shelves():
    """Dicts of LABELS and pairs of a TERM and its BUNDLE, of few names, some alike."""
    chance = random.Random(71)
    found = [pair for pair in good_terms(1600) if pair[1][0] < 4 and len(pair[1][1]) < 4]
    return [{label: chance.choice(found) for label in many_labels(20)} for _ in range(25)]


class Stronger(ShelfCase):
    def test_ordinary(self):
        shelf = Shelf()
        for label, term in (("one", ("one", 3, (1, 2, 3))), ("most", ("most", 3, (1, 2, 3))),
                            ("some", ("clause", 3, (1, 2, 3))), ("pair", ("clause", 3, (1, 2))),
                            ("free", ("without", ("clause", 3, (1,)), (0,))), ("never", ("clause", 3, ())),
                            ("other", ("clause", 2, (1, 2))), ("nothing", ("clause", 2, ()))):
            shelf.put(label, term)
        self.assert_told(("never",), shelf.stronger, "one")
        self.assert_told(("never", "one"), shelf.stronger, "most")
        self.assert_told(("never", "one", "pair"), shelf.stronger, "some")
        self.assert_told(("never",), shelf.stronger, "pair")
        self.assert_told(("most", "never", "one", "pair", "some"), shelf.stronger, "free")
        self.assert_told((), shelf.stronger, "never")
        self.assert_told(("nothing",), shelf.stronger, "other")
        self.assert_told((), shelf.stronger, "nothing")

    def test_alike_ones_are_stronger_both_ways(self):
        shelf = filled(["b", "a", "c"])
        self.assert_told(("b", "c"), shelf.stronger, "a")
        self.assert_told(("a", "c"), shelf.stronger, "b")
        shelf.put("a", ("clause", 1, (-1,)))
        self.assert_told((), shelf.stronger, "a")
        self.assert_told(("c",), shelf.stronger, "b")

    def test_one_that_was_taken_away_is_none_of_them(self):
        shelf = filled(["b", "a", "c"])
        shelf.take("c")
        self.assert_told(("b",), shelf.stronger, "a")
        self.assert_told((("a", "b"),), shelf.alike)
        shelf.put("c", B)
        self.assert_told(("b",), shelf.stronger, "a")

    def test_by_all_whole_settings(self):
        told = 0
        for rows in drawn_shelves():
            shelf = Shelf()
            for label, (term, _) in rows.items():
                shelf.put(label, term)
            for label, (_, (names, clauses)) in rows.items():
                wanted = []
                for other, (_, (other_names, rest)) in rows.items():
                    if other != label and other_names == names:
                        if all(are_met(row, clauses) for row in whole_settings(names) if are_met(row, rest)):
                            wanted.append(other)
                told += len(wanted)
                self.assert_told(tuple(sorted(wanted)), shelf.stronger, label)
        self.assertGreater(told, 400)


class Equal(ShelfCase):
    def test_filled_in_two_orders(self):
        one, other = filled(LABELS), filled(LABELS[::-1])
        self.assertIs(one == other, True)
        self.assertIs(one != other, False)
        one.put("z", B)
        self.assertIs(one == other, False)
        self.assertIs(one != other, True)
        other.put("z", B)
        self.assertIs(one == other, True)
        one.take("a")
        self.assertIs(one == other, False)
        one.put("a", A)
        self.assertIs(one == other, True)

    def test_other_terms_with_the_same_bundle(self):
        one, other = filled(["a"]), filled(["a"], ("both", A, A))
        self.assertFalse(one == other)
        self.assertFalse(filled(["a"]) == filled(["b"]))
        self.assertFalse(filled(["a"]) == Shelf())
        self.assertTrue(Shelf() == Shelf())
        self.assertTrue(filled(["a"]) == filled(["a"], ("clause", 1, tuple([1]))))

    def test_no_shelf(self):
        shelf = filled(["a"])
        for thing in ODD + [{"a": A}, Shelf, AGREEING]:
            self.assertIs(shelf == thing, False)
            self.assertIs(shelf != thing, True)
            self.assertIs(Shelf() == thing, False)
        self.assertIs(shelf == shelf, True)

    def test_each_has_its_own(self):
        one, other = Shelf(), Shelf()
        one.put("a", A)
        self.assertEqual(len(other), 0)
        self.assertIs("a" in other, False)


if __name__ == "__main__":
    unittest.main()
