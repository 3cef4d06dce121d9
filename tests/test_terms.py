"""The functions of idleclauses.terms: points [27] and [28]."""

import unittest

from idleclauses.bundles import need_bundle
from idleclauses.errors import BadTerm
from idleclauses.kernels import kernel
from idleclauses.settings import is_at_odds
from idleclauses.terms import bundle_of, kids_of, need_term
from tests.helper import (
    AGREEING, PLAIN, Case, all_lots, all_rows, does_meet, odd_integers, odd_things, odd_tuples,
    whole_settings,
)
from tests.opinions import used_numbers
from tests.opinions_terms import KIDS, are_met, drawn_terms, good_terms, term_verdict

A = ("clause", 1, (1,))
B = ("clause", 2, (-1, 2))
E = ("clause", 1, ())
# Of three names, with three clauses.
C = ("both", ("clause", 3, (1, 2, 3)), ("same", 2, 1, 2))
FULL = ("beside", ("one", 5, (1, 2, 3, 4, 5)), ("clause", 2, ()))
ODD = [thing for thing in odd_things() + odd_tuples() + odd_integers() + [0, 1, 2, ()]
       if not (isinstance(thing, tuple) and len(thing) == 3 and thing[0] == "clause")]


def chain(many, inner=A):
    """A TERM with so many words "turned" around another one."""
    for _ in range(many):
        inner = ("turned", inner, (1,))
    return inner


def row(many, last=A):
    """Some words "both" with so many TERMS in all, few within one another; the last one is told."""
    if many == 1:
        return last
    half = many // 2
    return ("both", row(half), row(many - half, last))


class TermCase(Case):
    def assert_term(self, bundle, term):
        """It is a TERM, with this BUNDLE, whichever function is asked."""
        self.assert_told(bundle, bundle_of, term)
        self.assertIs(need_term(term), term)
        self.assertIs(need_bundle(bundle), bundle)
        kids = tuple(term[at] for at in range(1, KIDS[term[0]] + 1))
        self.assert_told(kids, kids_of, term)

    def assert_no_term(self, path, thing):
        """It is refused for this path, whichever function is asked."""
        for action in (need_term, bundle_of, kids_of):
            self.assert_refused(BadTerm, "path", path, action, thing)

    def assert_as_told(self, thing):
        """It is a TERM or not, as the second opinion has it; which one it was."""
        verdict, wanted = term_verdict(thing)
        if verdict == "told":
            self.assert_term(wanted, thing)
        else:
            self.assert_no_term(wanted, thing)
        return verdict


class Leaves(TermCase):
    def test_clause(self):
        for names in range(1, 8):
            for clause in all_rows(names)[::names]:
                self.assert_term((names, (clause,)), ("clause", names, clause))

    def test_one(self):
        self.assert_term((3, ((-2, 3), (2, -3))), ("one", 3, (2, -3)))
        self.assert_term((3, ((-2, -3), (-1, -3), (-1, -2), (1, 2, 3))), ("one", 3, (1, 2, 3)))
        told = bundle_of(("one", 7, (1, -3, 4, -5, 7)))
        self.assertEqual(len(told[1]), 11)
        self.assertIn((1, -3, 4, -5, 7), told[1])
        self.assertIn((3, 5), told[1])
        self.assertIn((-1, -7), told[1])

    def test_most(self):
        self.assert_term((3, ((-2, 3),)), ("most", 3, (2, -3)))
        self.assert_term((4, ((-1, -4), (-1, 2), (2, -4))), ("most", 4, (1, -2, 4)))
        self.assertEqual(len(bundle_of(("most", 7, (1, 2, 3, 4, 5)))[1]), 10)

    def test_just_one_and_at_most_one_are_true(self):
        for names in range(2, 7):
            for clause in all_rows(names)[::names * names]:
                if 2 <= len(clause) <= 5:
                    for word, good in (("one", (1,)), ("most", (0, 1))):
                        rows = bundle_of((word, names, clause))[1]
                        for setting in whole_settings(names):
                            many = sum(k in setting for k in clause)
                            self.assertIs(are_met(setting, rows), many in good)

    def test_one_and_most_of_2_to_5(self):
        for word in ("one", "most"):
            for names in range(1, 8):
                for many in range(names + 1):
                    for sign in (1, -1):
                        clause = tuple(sign * k for k in range(1, many + 1))
                        verdict = self.assert_as_told((word, names, clause))
                        self.assertEqual(verdict == "told", 2 <= many <= 5)

    def test_same(self):
        self.assert_term((3, ((-1, 3), (1, -3))), ("same", 3, 1, 3))
        self.assert_term((3, ((-1, 3), (1, -3))), ("same", 3, 3, 1))
        self.assert_term((3, ((-1, -2), (1, 2))), ("same", 3, -1, 2))
        self.assert_term((3, ((-1, -2), (1, 2))), ("same", 3, 2, -1))
        self.assert_term((2, ((-1, 2), (1, -2))), ("same", 2, -2, -1))
        for names in range(1, 5):
            for k in range(-names - 1, names + 2):
                for m in range(-names - 1, names + 2):
                    verdict = self.assert_as_told(("same", names, k, m))
                    good = 0 not in (k, m) and abs(k) != abs(m) and max(abs(k), abs(m)) <= names
                    self.assertEqual(verdict == "told", good)


class Words(TermCase):
    def test_both(self):
        self.assert_term((2, ((-1, 2), (1,))), ("both", A, B))
        self.assert_term((2, ((-1, 2), (1,))), ("both", B, A))
        self.assert_term((1, ((1,),)), ("both", A, A))
        self.assert_term((1, ((), (1,))), ("both", A, E))
        self.assert_term((7, ((), (1,))), ("both", A, ("clause", 7, ())))

    def test_beside(self):
        self.assert_term((3, ((-1, 2), (3,))), ("beside", B, A))
        self.assert_term((3, ((-2, 3), (1,))), ("beside", A, B))
        self.assert_term((2, ((1,), (2,))), ("beside", A, A))
        self.assert_term((2, ((),)), ("beside", E, E))
        self.assert_term((7, bundle_of(FULL)[1]), FULL)
        self.assert_no_term((), ("beside", FULL, A))
        self.assert_no_term((), ("beside", A, FULL))
        self.assert_no_term((), ("beside", ("clause", 7, ()), E))

    def test_either(self):
        self.assert_term((2, ()), ("either", A, B))
        self.assert_term((2, ((1, 2),)), ("either", A, ("clause", 2, (2,))))
        self.assert_term((1, ((1,),)), ("either", A, E))
        self.assert_term((1, ()), ("either", A, ("clause", 1, (-1,))))
        self.assert_term((3, ((1, 2, 3),)), ("either", C, ("clause", 3, (1, 2, 3))))
        self.assert_term((1, ()), ("either", A, ("without", A, (0,))))

    def test_turned(self):
        self.assert_term((2, ((1, -2),)), ("turned", B, (1, 2)))
        self.assert_term((2, ((1, 2),)), ("turned", B, (1,)))
        self.assert_term((2, ((-1, 2),)), ("turned", B, ()))
        self.assert_no_term((), ("turned", B, (3,)))
        self.assert_no_term((), ("turned", A, (1, 2)))

    def test_crossed(self):
        self.assert_term((2, ((2,),)), ("crossed", B, (1,)))
        self.assert_term((2, ()), ("crossed", B, (1, 2)))
        self.assert_term((1, ((1,),)), ("crossed", ("both", A, E), ()))
        self.assert_term((1, ()), ("crossed", E, ()))
        self.assert_no_term((), ("crossed", B, (2, 3)))

    def test_set(self):
        self.assert_term((2, ((2,),)), ("set", B, (1,)))
        self.assert_term((2, ()), ("set", B, (-1,)))
        self.assert_term((2, ((),)), ("set", B, (1, -2)))
        self.assert_term((2, ((-1, 2),)), ("set", B, ()))
        self.assert_term((1, ((),)), ("set", E, (1,)))
        self.assert_no_term((), ("set", B, (-3,)))
        self.assert_no_term((), ("set", A, (1, 2)))

    def test_merged(self):
        self.assert_term((1, ()), ("merged", B, 1, 2))
        self.assert_term((1, ((1,),)), ("merged", ("clause", 2, (1, 2)), 1, 2))
        self.assert_term((2, ((1, -2),)), ("merged", ("clause", 3, (1, -3)), 1, 2))
        self.assert_term((2, ((1, -2),)), ("merged", ("clause", 3, (1, -3)), 2, 3))
        self.assert_term((2, ((-1, 2),)), ("merged", ("clause", 3, (2, -3)), 1, 3))
        self.assert_term((6, ((1, -2, 3, 6),)), ("merged", ("clause", 7, (1, -2, 3, 4, 7)), 3, 4))
        self.assert_no_term((), ("merged", A, 1, 2))
        self.assert_no_term((), ("merged", B, 2, 3))
        self.assert_no_term((), ("merged", C, 1, 4))

    def test_merged_with_a_clause_left_out(self):
        term = ("both", ("clause", 3, (1, 3)), ("clause", 3, (1, -3)))
        self.assert_term((2, ((1,),)), ("merged", term, 1, 3))
        self.assert_term((2, ((-1,), (1,))), ("merged", ("one", 3, (1, 3)), 1, 3))
        self.assert_term((2, ((-1, -2), (1, 2))), ("merged", ("both", ("same", 3, 1, 3), ("same", 3, -1, 2)), 1, 3))

    def test_without(self):
        self.assert_term((3, ((1, -2), (1, 2, 3))), ("without", C, (0,)))
        self.assert_term((3, ((-1, 2), (1, 2, 3))), ("without", C, (1,)))
        self.assert_term((3, ((-1, 2),)), ("without", C, (1, 2)))
        self.assert_term((3, ((-1, 2), (1, -2), (1, 2, 3))), ("without", C, ()))
        self.assert_term((3, ()), ("without", C, (0, 1, 2)))
        self.assert_term((1, ()), ("without", ("without", A, (0,)), ()))
        for numbers in ((3,), (0, 3), (15,), (0, 1, 2, 3)):
            self.assert_no_term((), ("without", C, numbers))
        self.assert_no_term((), ("without", ("without", A, (0,)), (0,)))

    def test_sixteen_clauses_and_one_more(self):
        eleven = ("one", 5, (1, 2, 3, 4, 5))
        five = ("both", ("one", 3, (-1, -2, -3)), E)
        self.assertEqual([len(bundle_of(term)[1]) for term in (eleven, five)], [11, 5])
        whole = ("both", eleven, five)
        self.assertEqual(len(bundle_of(whole)[1]), 16)
        self.assert_as_told(whole)
        self.assert_no_term((), ("both", whole, A))
        self.assert_no_term((), ("beside", whole, A))
        self.assert_term(bundle_of(whole), ("both", whole, five))
        self.assert_no_term((1,), ("both", ("both", whole, A), A))
        self.assert_no_term((2, 1), ("both", A, ("turned", ("both", whole, A), (1, 2))))
        # Four clauses by four are sixteen; of four by five twenty are too many.
        units = ("both", ("both", ("clause", 7, (1,)), ("clause", 7, (2,))),
                 ("both", ("clause", 7, (3,)), ("clause", 7, (4,))))
        others = ("both", ("both", ("clause", 7, (5,)), ("clause", 7, (6,))),
                  ("both", ("clause", 7, (7,)), ("clause", 7, (-5,))))
        self.assertEqual(len(bundle_of(("either", units, others))[1]), 16)
        self.assert_no_term((), ("either", units, ("both", others, ("clause", 7, (-6,)))))
        # Of twenty that have alike ones among them ten are left.
        self.assertEqual(self.assert_as_told(("either", units, ("both", units, E))), "told")
        self.assertEqual(len(bundle_of(("either", units, ("both", units, E)))[1]), 10)


class Drawn(TermCase):
    def test_drawn_terms(self):
        told = {}
        for term in drawn_terms(1600):
            found = (self.assert_as_told(term), term[0])
            told[found] = told.get(found, 0) + 1
        for word in KIDS:
            self.assertGreater(told.get(("told", word), 0), 30, word)
        for word in ("both", "beside", "either", "turned", "crossed", "set", "merged", "without"):
            self.assertGreater(told.get(("path", word), 0), 5, word)

    def test_facts_on_both_and_either(self):
        found = 0
        for term, (names, clauses) in good_terms(1600):
            if term[0] in ("both", "either"):
                found += 1
                parts = [bundle_of(kid) for kid in kids_of(term)]
                for setting in whole_settings(names):
                    met = [are_met([k for k in setting if abs(k) <= n], rows) for n, rows in parts]
                    wanted = all(met) if term[0] == "both" else any(met)
                    self.assertIs(are_met(setting, clauses), wanted)
        self.assertGreater(found, 200)

    def test_fact_on_beside(self):
        for term, bundle in good_terms(1600):
            if term[0] == "beside":
                first, second = [bundle_of(kid) for kid in kids_of(term)]
                wanted = {first[1][k] for k in used_numbers(first)}
                wanted |= {tuple(k + first[0] if k > 0 else k - first[0] for k in second[1][number])
                           for number in used_numbers(second)}
                self.assertEqual({bundle[1][k] for k in kernel(bundle)}, wanted)

    def test_fact_on_set(self):
        for term, bundle in good_terms(1600):
            if term[0] == "set":
                names, clauses = bundle_of(term[1])
                some = any(set(term[2]) <= set(setting) and are_met(setting, clauses)
                           for setting in whole_settings(names))
                self.assertIs(is_at_odds(bundle), not some)

    def test_without_and_crossed_by_each(self):
        names, clauses = bundle_of(C)
        for lot in all_lots(names):
            left = {tuple(k for k in clause if abs(k) not in lot) for clause in clauses} - {()}
            self.assert_term((names, tuple(sorted(left))), ("crossed", C, lot))
        for setting in all_rows(names):
            left = {tuple(k for k in clause if -k not in setting) for clause in clauses
                    if not does_meet(setting, clause)}
            self.assert_term((names, tuple(sorted(left))), ("set", C, setting))


class HowMany(TermCase):
    def test_20_words_and_21(self):
        for many in range(1, 11):
            self.assert_term((1, ((1,),)), row(many))
        self.assert_term((1, ((-1,),)), ("turned", row(10), (1,)))
        self.assert_no_term((), row(11))
        self.assert_no_term((), ("turned", ("turned", row(10), ()), ()))
        self.assert_no_term((), ("both", ("turned", row(10), ()), A))
        self.assert_no_term((), ("both", A, ("turned", row(10), ())))
        self.assert_no_term((), row(14))

    def test_the_21st_whatever_it_is(self):
        for thing in ODD:
            self.assert_no_term((), row(11, thing))
        # Of twenty the last one is refused for itself.
        for thing in ODD:
            self.assert_no_term((1, 2, 2, 2, 2), ("turned", row(10, thing), ()))

    def test_8_within_one_another_and_9(self):
        for many in range(8):
            self.assert_term((1, ((-1,) if many % 2 else (1,),)), chain(many))
        self.assert_no_term((), chain(8))
        self.assert_no_term((), chain(9))
        self.assert_no_term((), chain(30))
        self.assert_no_term((), ("both", A, chain(7)))
        self.assert_no_term((), ("both", chain(7), A))
        self.assert_term((1, ((1,),)), ("both", A, chain(6)))

    def test_the_ninth_whatever_it_is(self):
        for thing in ODD:
            self.assert_no_term((), chain(8, thing))
            self.assert_no_term((1,) * 7, chain(7, thing))

    def test_a_fault_that_the_walk_comes_to_first(self):
        # The whole is looked at ahead of its TERMS, the left one with its own ahead of the right one.
        self.assert_no_term((1,), ("both", None, chain(8)))
        self.assert_no_term((), ("both", chain(8), None))
        self.assert_no_term((), ("turned", chain(8), (0,)))
        self.assert_no_term((1,), ("turned", ("turned", chain(8), None), ()))
        self.assert_no_term((1, 1, 1, 1), ("both", ("both", ("both", ("both", None, A), A), A), row(10)))
        self.assert_no_term((), ("both", row(10), ("both", None, A)))


class TwoFaults(TermCase):
    def test_forms_ahead_of_bundles(self):
        by_bundle = ("turned", A, (2,))
        by_form = ("turned", A, (0,))
        self.assert_no_term((1,), ("both", by_bundle, A))
        self.assert_no_term((2,), ("both", by_bundle, by_form))
        self.assert_no_term((1,), ("both", by_form, by_bundle))
        self.assert_no_term((2, 1), ("both", by_bundle, ("set", None, (1,))))
        self.assert_no_term((1,), ("both", by_bundle, by_bundle))
        self.assert_no_term((), ("both", by_bundle, chain(8)))

    def test_the_whole_ahead_of_its_terms_by_forms(self):
        self.assert_no_term((), ("turned", None, None))
        self.assert_no_term((), ("merged", None, 2, 1))
        self.assert_no_term((), ("without", ("x",), (16,)))
        self.assert_no_term((), ("set", 5, (8,)))
        self.assert_no_term((), ("both", None))
        self.assert_no_term((), ("both", None, None, None))
        self.assert_no_term((1,), ("turned", ("crossed", None, (0,)), (1,)))
        self.assert_no_term((1,), ("both", ("turned", None, (0,)), None))
        self.assert_no_term((1, 1), ("both", ("turned", None, (1,)), None))

    def test_terms_ahead_of_the_whole_by_bundles(self):
        self.assert_no_term((1,), ("turned", ("turned", A, (2,)), (2,)))
        self.assert_no_term((1, 1), ("turned", ("turned", ("turned", A, (2,)), (2,)), (2,)))
        self.assert_no_term((2,), ("beside", FULL, ("merged", A, 1, 2)))
        self.assert_no_term((1,), ("beside", ("merged", A, 1, 2), ("turned", A, (2,))))
        self.assert_no_term((), ("turned", ("turned", A, (1,)), (2,)))
        self.assert_no_term((2, 1), ("both", ("both", A, A), ("both", ("set", A, (2,)), ("set", A, (3,)))))


class WrongThings(TermCase):
    def test_no_terms_at_all(self):
        for thing in ODD + [("",), ("x", 1, 2), ("clause",), ("clause", 1), ("clause", 1, (), ()),
                            ("CLAUSE", 1, ()), ("clause ", 1, ()), (b"clause", 1, ()), ["clause", 1, ()],
                            (AGREEING, 1, ()), (PLAIN, A, A), (None, A, A), (("both",), A, A)]:
            self.assert_no_term((), thing)
            self.assert_no_term((1,), ("both", thing, A))
            self.assert_no_term((2,), ("both", A, thing))
            self.assert_no_term((1, 1), ("without", ("turned", thing, (1,)), ()))

    def test_wrong_things_in_each_place(self):
        good = [("clause", 3, (1, -2)), ("one", 3, (1, -2)), ("most", 3, (1, -2)), ("same", 3, 1, -2),
                ("both", A, B), ("beside", A, B), ("either", A, B), ("turned", C, (1, 2)),
                ("crossed", C, (1, 3)), ("set", C, (1, -2)), ("merged", C, 1, 2), ("without", C, (0, 1))]
        self.assertEqual([term[0] for term in good], list(KIDS))
        for term in good:
            self.assertEqual(self.assert_as_told(term), "told")
            for at in range(len(term)):
                for thing in ODD + [8, -1, (8,), (-1,), (2, 1), (1, 1), [1, 2], (0, 16), 3, -3, (1, -1)]:
                    self.assert_as_told(term[:at] + (thing,) + term[at + 1:])
                self.assert_no_term((), term[:at] + term[at + 1:])
                self.assert_no_term((), term[:at + 1] + term[at:])
            self.assert_no_term((), term + (None,))
            self.assert_no_term((), list(term))
            self.assert_no_term((1,), ("turned", list(term), ()))
            for word in KIDS:
                self.assert_as_told((word, *term[1:]))

    def test_names_and_numbers_without_any_bundle(self):
        for thing in ((), (1,), (7,), (1, 2, 3, 4, 5, 6, 7)):
            seven = ("clause", 7, ())
            self.assertEqual(self.assert_as_told(("turned", seven, thing)), "told")
            self.assertEqual(self.assert_as_told(("crossed", seven, thing)), "told")
        # By their form these are right, so that the TERM within is refused.
        for thing in (("turned", None, (7,)), ("crossed", None, (7,)), ("set", None, (-7,)),
                      ("merged", None, 6, 7), ("without", None, (15,)), ("without", None, tuple(range(16)))):
            self.assert_no_term((1,), thing)
        for thing in (("turned", None, (8,)), ("crossed", None, (-7,)), ("set", None, (-8,)),
                      ("merged", None, 7, 8), ("merged", None, 7, 7), ("merged", None, 0, 1),
                      ("without", None, (16,)), ("without", None, tuple(range(17))), ("without", None, (-1,)),
                      ("without", None, (1, 0)), ("without", None, (0, 0)), ("turned", None, (-1,)),
                      ("merged", None, True, 2), ("merged", None, 1, None), ("without", None, (False,))):
            self.assert_no_term((), thing)

    def test_changed_at_any_place(self):
        for term in (("merged", ("both", A, ("clause", 2, (1, -2))), 1, 2), ("set", ("same", 2, 1, -2), (1,)),
                     ("without", ("either", A, B), ()), ("crossed", ("most", 2, (1, 2)), (1,))):
            for thing in changed_terms(term):
                self.assert_as_told(thing)


def changed_terms(thing):
    """A nested tuple with something otherwise, left out or put in at one place."""
    yield from (None, True, 0, 8, -1, "", "both", "clause", (), [], (1,), A)
    if isinstance(thing, int):
        yield from (thing + 1, thing - 1, -thing, str(thing))
    if isinstance(thing, str):
        yield from KIDS
    if isinstance(thing, tuple):
        yield from (list(thing), thing[::-1], thing + thing, (thing,))
        for at, item in enumerate(thing):
            for other in changed_terms(item):
                yield thing[:at] + (other,) + thing[at + 1:]
            yield thing[:at] + thing[at + 1:]
            yield thing[:at] + (item, item) + thing[at + 1:]


if __name__ == "__main__":
    unittest.main()
