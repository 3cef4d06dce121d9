"""The functions of idleclauses.kernels: points [5], [6], [7] and [9]."""

import random
import unittest

from idleclauses.bundles import crossed, put_to, without
from idleclauses.chains import clauses_of, need_chain, refutation, uses
from idleclauses.errors import BadClause, BadNumber, BadPaper
from idleclauses.kernels import (
    always_used, check_kernel, check_used, kernel, kernel_paper, single_chain, used_paper,
)
from tests.helper import (
    Case, all_rows, does_meet, layered_bundles, named_bundles, odd_integers, odd_things, odd_tuples,
    small_bundles, some_bundles,
)
from tests.opinions import (
    all_led, changed, chain_read, is_met_by_some, is_refuted_by, is_tidy_setting, kernel_verdict,
    names_in, tidy_settings, used_by_chains, used_numbers, used_verdict, uses_of,
)

# At odds by name 1; of name 2 when name 1 is left out; names 3 and 4 are beside.
ABC = (4, ((-2, -3), (-1,), (-1, 2), (1,), (1, -2), (3, 4)))
# Each layer has a name that stands beside the one ahead.
SEVEN = (7, tuple(sorted([(1,), (-1,)] + [(s * k, s * (k + 1)) for k in range(1, 7) for s in (1, -1)])))
SIGNS = named_bundles()[8]
USED = ("used", (("clause", 3), ("clause", 1), ("by", 0, 1, 1)))
WIDE = ("used", (("clause", 3), ("clause", 2), ("by", 0, 1, 1), ("clause", 1), ("clause", 4),
                 ("by", 4, 3, 1), ("by", 2, 5, 2)))


def bundles():
    """BUNDLES of many kinds."""
    return small_bundles() + named_bundles() + some_bundles(120) + layered_bundles(60) + [ABC, SEVEN]


def fewer_bundles():
    """Some of them, with all of the edges."""
    return small_bundles()[::9] + named_bundles() + some_bundles(20) + layered_bundles(15) + [ABC, SEVEN]


class Kernel(Case):
    def test_ordinary(self):
        self.assert_told((1, 2, 3, 4), kernel, ABC)
        self.assert_told((0, 1), kernel, (1, ((-1,), (1,))))
        self.assert_told((0, 1), kernel, (2, ((-1,), (1,), (1, 2))))
        self.assert_told((0, 1, 2, 3), kernel, (2, ((-1, -2), (-1, 2), (1, -2), (1, 2))))
        self.assert_told((1, 3), kernel, (5, ((-4, 5), (-2,), (1, 3), (2,), (4, -5))))
        self.assert_told((0, 1), kernel, (3, ((-3,), (3,))))

    def test_all_and_none(self):
        self.assert_told(tuple(range(14)), kernel, SEVEN)
        self.assert_told(tuple(range(16)), kernel, SIGNS)
        for names in range(1, 8):
            self.assert_told((), kernel, (names, ()))
            self.assert_told((), kernel, (names, ((-names,),)))
            self.assert_told((), kernel, (names, (tuple(range(1, names + 1)),)))
        self.assert_told((), kernel, without(SIGNS, 7))

    def test_the_empty_clause_is_always_used(self):
        for names in range(1, 8):
            self.assert_told((0,), kernel, (names, ((),)))
            self.assert_told((0,), kernel, (names, ((), (names,))))
            self.assert_told((0, 1, 2), kernel, (names, ((), (-names,), (names,))))

    def test_by_all_settings(self):
        for bundle in bundles():
            self.assert_told(used_numbers(bundle), kernel, bundle)

    def test_by_all_chains(self):
        found = small_bundles() + [b for b in some_bundles(60) + layered_bundles(60) if b[0] == 3]
        for bundle in found + [b for b in named_bundles() if b[0] < 4]:
            self.assertEqual(kernel(bundle), used_by_chains(bundle), bundle)

    def test_what_has_names_of_used_ones_alone_is_used(self):
        for bundle in bundles():
            found = kernel(bundle)
            names = names_in([bundle[1][k] for k in found])
            for number, clause in enumerate(bundle[1]):
                self.assertEqual(names_in([clause]) <= names, number in found)

    def test_with_a_further_clause_all_stay_used(self):
        for bundle in bundles()[::3]:
            ahead = {bundle[1][k] for k in kernel(bundle)}
            for clause in ((), (1,), (-1,), (bundle[0],)):
                if len(bundle[1]) < 16:
                    further = put_to(bundle, clause)
                    self.assertLessEqual(ahead, {further[1][k] for k in kernel(further)})

    def test_bundle_needed(self):
        self.assert_needs_bundle(kernel)


class UsedPaper(Case):
    def test_each_paper_is_taken(self):
        for bundle in bundles():
            for number in range(len(bundle[1])):
                paper = used_paper(bundle, number)
                word = "used" if number in used_numbers(bundle) else "tidy"
                self.assertEqual(used_verdict(bundle, number, paper), ("told", word), (bundle, number))
                self.assertEqual(check_used(bundle, number, paper), word)

    def test_each_chain_uses_the_clause(self):
        for bundle in fewer_bundles():
            for number in kernel(bundle):
                _, chain = self.assert_same_again(used_paper, bundle, number)
                self.assertTrue(is_refuted_by(bundle, chain))
                self.assertIn(number, uses_of(chain))
                self.assertLessEqual(len(chain), 2000)
                self.assertIs(need_chain(bundle, chain), chain)
                self.assertIn(number, uses(bundle, chain))
                self.assertEqual(clauses_of(bundle, chain)[-1], ())

    def test_the_empty_clause(self):
        for names in range(1, 8):
            paper = ("used", (("clause", 0),))
            self.assert_told("used", check_used, (names, ((),)), 0, paper)
            self.assert_told("used", check_used, (names, ((), (-names,), (names,))), 0, paper)
            self.assertEqual(used_paper((names, ((), (names,))), 0)[0], "used")
            self.assertEqual(used_paper((names, ((), (names,))), 1), ("tidy", (names,)))

    def test_never_one_of_each_sort(self):
        for bundle in fewer_bundles():
            found = kernel(bundle)
            for number in found:
                for setting in all_rows(bundle[0])[::17] + tidy_settings(bundle):
                    self.assert_refused(BadPaper, "part", "tidy", check_used, bundle, number,
                                        ("tidy", setting))
            chains = [used_paper(bundle, number)[1] for number in found] + [refutation(bundle)]
            for number in set(range(len(bundle[1]))) - set(found):
                for chain in chains:
                    self.assert_refused(BadPaper, "part", "used", check_used, bundle, number,
                                        ("used", chain))

    def test_wrong_numbers(self):
        for action, rest in ((used_paper, ()), (check_used, (USED,)), (check_used, (None,))):
            for thing in odd_things() + odd_tuples() + odd_integers() + [6, -1, -6, ()]:
                self.assert_keeps_given(BadNumber, action, ABC, thing, *rest)
            for thing in (0, -1, None):
                self.assert_keeps_given(BadNumber, action, (7, ()), thing, *rest)
            self.assert_keeps_given(BadNumber, action, SIGNS, 16, *rest)

    def test_bundle_first(self):
        for thing in (0, 99, None, True):
            self.assert_needs_bundle(used_paper, thing)
            self.assert_needs_bundle(check_used, thing, USED)
            self.assert_needs_bundle(check_used, thing, None)


class CheckUsed(Case):
    def test_ordinary(self):
        for number in (1, 3):
            self.assert_told("used", check_used, ABC, number, USED)
        for number in (1, 2, 3, 4):
            self.assert_told("used", check_used, ABC, number, WIDE)
        self.assert_told("tidy", check_used, ABC, 0, ("tidy", (-3, 4)))
        self.assert_told("tidy", check_used, ABC, 5, ("tidy", (-3, 4)))
        self.assert_told("tidy", check_used, ABC, 5, ("tidy", (4,)))

    def test_a_chain_that_is_none_of_these(self):
        chain = USED[1]
        self.assert_refused(BadPaper, "part", "used", check_used, ABC, 2, USED)
        self.assert_refused(BadPaper, "part", "used", check_used, ABC, 3, ("used", chain[:1]))
        self.assert_refused(BadPaper, "part", "used", check_used, ABC, 3, ("used", chain[:2]))
        self.assert_refused(BadPaper, "part", "used", check_used, ABC, 3, ("used", ()))
        self.assert_refused(BadPaper, "part", "used", check_used, ABC, 3, ("used", None))
        self.assert_refused(BadPaper, "part", "used", check_used, ABC, 3, ("used", (*chain, chain[0])))
        # The STEP with the CLAUSE stands there, but does not lead to ().
        beside = (("clause", 4), ("clause", 3), ("clause", 1), ("by", 1, 2, 1))
        self.assert_refused(BadPaper, "part", "used", check_used, ABC, 4, ("used", beside))
        self.assert_told("used", check_used, ABC, 3, ("used", beside))

    def test_2000_steps_but_not_2001(self):
        long = ("clause", 3), ("clause", 1), *[("by", 0, 1, 1)] * 1998
        self.assert_told("used", check_used, ABC, 3, ("used", tuple(long)))
        self.assert_refused(BadPaper, "part", "used", check_used, ABC, 3, ("used", (*long, long[-1])))

    def test_a_setting_that_is_none_of_these(self):
        for thing in ((), (3,), (-3,), (2,), (1, 4), (5,), (4, -3), [4], None, True, "4", (4, None),
                      ((4,),), (True,), 4):
            self.assert_refused(BadPaper, "part", "tidy", check_used, ABC, 5, ("tidy", thing))
        # TIDY, but touches something else alone.
        self.assert_refused(BadPaper, "part", "tidy", check_used, ABC, 0, ("tidy", (4,)))

    def test_form(self):
        wrong = odd_things() + odd_tuples() + odd_integers() + [
            0, (), USED[:1], (*USED, None), list(USED), ("Used", USED[1]), (True, USED[1]),
            (None, USED[1]), ("", USED[1]), (("used",), USED[1]), (["used"], USED[1]), (b"used", ()),
            ("used tidy", ()), ("met", (4,)), ("plain", (4,)), USED[1], ("ring", ()), (USED, USED),
        ]
        wrong += [(word, USED[1]) for word in odd_things() + odd_tuples() + odd_integers()]
        for thing in wrong:
            for number in (0, 3):
                self.assert_refused(BadPaper, "part", "form", check_used, ABC, number, thing)

    def test_each_wrong_thing_behind_a_word(self):
        for thing in odd_things() + odd_tuples() + odd_integers() + [0]:
            for number in range(6):
                for word in ("used", "tidy"):
                    self.assert_refused(BadPaper, "part", word, check_used, ABC, number, (word, thing))

    def test_something_otherwise_at_any_place(self):
        papers = [(ABC, 3, USED), (ABC, 4, WIDE), (ABC, 5, ("tidy", (4,))), (ABC, 0, ("tidy", (-3, 4)))]
        papers += [((2, ((-1, -2), (-1, 2), (1, -2), (1, 2))), 2, None), (SEVEN, 3, None)]
        for bundle, number, paper in papers:
            for thing in changed(paper or used_paper(bundle, number)):
                self.assert_verdict(used_verdict(bundle, number, thing), check_used, bundle, number, thing)

    def test_papers_of_other_clauses_and_bundles(self):
        some = fewer_bundles()
        papers = [used_paper(b, k) for b in some[::2] for k in range(len(b[1]))][::5]
        for bundle in some[::4]:
            for number in range(len(bundle[1])):
                for paper in papers:
                    self.assert_verdict(used_verdict(bundle, number, paper), check_used, bundle, number,
                                        paper)


class KernelPaper(Case):
    def test_each_paper_is_taken(self):
        for bundle in bundles():
            paper = self.assert_same_again(kernel_paper, bundle)
            self.assertEqual(kernel_verdict(bundle, paper), ("told", used_numbers(bundle)), bundle)
            self.assert_told(used_numbers(bundle), check_kernel, bundle, paper)

    def test_each_layer_is_a_refutation_of_what_is_left(self):
        for bundle in layered_bundles(60) + named_bundles() + [SEVEN, ABC]:
            layers, setting = kernel_paper(bundle)
            lot = ()
            for chain in layers:
                left = crossed(bundle, lot)
                self.assertTrue(is_refuted_by(left, chain))
                self.assertLessEqual(len(chain), 2000)
                lot = tuple(sorted(names_in([lot] + [left[1][k] for k in uses(left, chain)])))
            self.assertFalse(names_in([setting]) & set(lot))
            self.assertTrue(is_tidy_setting(bundle, setting))

    def test_no_layers(self):
        for names in range(1, 8):
            self.assert_told(((), ()), kernel_paper, (names, ()))
            self.assert_told(((), ()), kernel_paper, (names, ((),)))
            self.assert_told(((), (-names,)), kernel_paper, (names, ((-names,),)))

    def test_bundle_needed(self):
        self.assert_needs_bundle(kernel_paper)
        for thing in (((), ()), None, ()):
            self.assert_needs_bundle(check_kernel, thing)


class CheckKernel(Case):
    FIRST = (("clause", 3), ("clause", 1), ("by", 0, 1, 1))
    # ABC CROSSED by name 1: (-2,), (-2, -3), (2,), (3, 4).
    SECOND = (("clause", 2), ("clause", 0), ("by", 0, 1, 2))

    def test_ordinary(self):
        self.assert_told((1, 2, 3, 4), check_kernel, ABC, ((self.FIRST, self.SECOND), (-3, 4)))
        self.assert_refused(BadPaper, "part", "setting", check_kernel, ABC, ((self.FIRST,), (-3, 4)))
        self.assert_refused(BadPaper, "part", "layers", check_kernel, ABC, ((self.SECOND,), (-3, 4)))
        both = (WIDE[1], self.SECOND)
        self.assert_refused(BadPaper, "part", "layers", check_kernel, ABC, (both, (-3, 4)))
        self.assert_told((1, 2, 3, 4), check_kernel, ABC, ((WIDE[1],), (-3, 4)))

    def test_other_names_may_be_set(self):
        bundle = (3, ((-1,), (1,), (1, 2)))
        layers = ((("clause", 1), ("clause", 0), ("by", 0, 1, 1)),)
        for setting in ((2,), (2, 3), (2, -3)):
            self.assert_told((0, 1), check_kernel, bundle, (layers, setting))
        for setting in ((), (-2,), (3,), (1, 2), (-1, 2), (2, 4), (3, 2), [2], None, 2, ((2,),), (True,)):
            self.assert_refused(BadPaper, "part", "setting", check_kernel, bundle, (layers, setting))

    def test_the_empty_clause_is_in_no_layer(self):
        bundle = (1, ((), (-1,), (1,)))
        # CROSSED by () the BUNDLE has no (), so the numbers are one less.
        layers = ((("clause", 1), ("clause", 0), ("by", 0, 1, 1)),)
        self.assert_told((0, 1, 2), check_kernel, bundle, (layers, ()))
        wrong = ((("clause", 2), ("clause", 1), ("by", 0, 1, 1)),)
        self.assert_refused(BadPaper, "part", "layers", check_kernel, bundle, (wrong, ()))
        self.assert_refused(BadPaper, "part", "layers", check_kernel, (1, ((),)), (((("clause", 0),),), ()))
        self.assert_told((0,), check_kernel, (1, ((),)), ((), ()))
        self.assert_told((0,), check_kernel, (1, ((),)), ((), (1,)))

    def test_no_clauses(self):
        for names in range(1, 8):
            for setting in ((), (names,), tuple(range(1, names + 1))):
                self.assert_told((), check_kernel, (names, ()), ((), setting))
            self.assert_refused(BadPaper, "part", "setting", check_kernel, (names, ()), ((), (8,)))
            for layers in (((),), (None,), ((("clause", 0),),), None, [], "", (((),),)):
                self.assert_refused(BadPaper, "part", "layers", check_kernel, (names, ()), (layers, ()))

    def test_a_layer_twice(self):
        bundle = (1, ((-1,), (1,)))
        layer = (("clause", 1), ("clause", 0), ("by", 0, 1, 1))
        self.assert_told((0, 1), check_kernel, bundle, ((layer,), ()))
        self.assert_refused(BadPaper, "part", "layers", check_kernel, bundle, ((layer, layer), ()))
        self.assert_refused(BadPaper, "part", "layers", check_kernel, bundle, ((layer,) * 5000, ()))

    def test_a_layer_with_needless_steps(self):
        bundle = (2, ((-2,), (-1,), (1,), (2,)))
        one = (("clause", 3), ("clause", 2), ("clause", 1), ("by", 1, 2, 1))
        # The first STEP is not used, so name 2 is still there.
        self.assert_refused(BadPaper, "part", "setting", check_kernel, bundle, ((one,), ()))
        self.assert_refused(BadPaper, "part", "setting", check_kernel, bundle, ((one,), (2,)))
        two = (("clause", 1), ("clause", 0), ("by", 0, 1, 2))
        self.assert_told((0, 1, 2, 3), check_kernel, bundle, ((one, two), ()))
        long = (("clause", 1), ("clause", 2)) + (("by", 1, 0, 1),) * 1998
        self.assert_told((0, 1, 2, 3), check_kernel, bundle, ((long, two), ()))
        self.assert_refused(BadPaper, "part", "layers", check_kernel, bundle, (((*long, long[-1]), two), ()))

    def test_form_then_layers_then_setting(self):
        wrong = odd_things() + odd_integers() + [0, ((),), ((), (), ()), ((self.FIRST,), (), ()),
                                                 [(), ()], (self.FIRST, self.SECOND, (-3, 4))]
        for thing in wrong:
            self.assert_refused(BadPaper, "part", "form", check_kernel, ABC, thing)
            for layers in (thing, (thing,), (self.FIRST, thing), (self.FIRST, self.SECOND, thing)):
                for setting in ((-3, 4), thing):
                    self.assert_refused(BadPaper, "part", "layers", check_kernel, ABC, (layers, setting))
            self.assert_refused(BadPaper, "part", "setting", check_kernel, ABC,
                                ((self.FIRST, self.SECOND), thing))
        self.assert_refused(BadPaper, "part", "form", check_kernel, ABC, ())
        self.assert_refused(BadPaper, "part", "layers", check_kernel, ABC, (((),), (-3, 4)))

    def test_something_otherwise_at_any_place(self):
        papers = [(ABC, ((self.FIRST, self.SECOND), (-3, 4))), ((1, ()), ((), ())), ((7, ((),)), ((), ()))]
        papers += [(b, kernel_paper(b)) for b in layered_bundles(5) + named_bundles()[-6:]]
        for bundle, paper in papers:
            for thing in changed(paper):
                self.assert_verdict(kernel_verdict(bundle, thing), check_kernel, bundle, thing)

    def test_papers_of_other_bundles(self):
        some = fewer_bundles()[::2]
        papers = [kernel_paper(bundle) for bundle in some]
        for bundle in some:
            for paper in papers:
                self.assert_verdict(kernel_verdict(bundle, paper), check_kernel, bundle, paper)

    def test_whatever_holds_tells_the_kernel(self):
        chance = random.Random(11)
        for bundle in bundles()[::4]:
            layers, setting = kernel_paper(bundle)
            for _ in range(6):
                other = chance.choice(all_rows(bundle[0]))
                for paper in ((layers, other), (layers[:-1], setting), (layers[:-1], other)):
                    verdict = kernel_verdict(bundle, paper)
                    self.assert_verdict(verdict, check_kernel, bundle, paper)
                    if verdict[0] == "told":
                        self.assertEqual(verdict[1], used_numbers(bundle))


class AlwaysUsed(Case):
    def test_ordinary(self):
        self.assert_told((0, 1), always_used, (1, ((-1,), (1,))))
        self.assert_told((1, 3), always_used, ABC)
        self.assert_told((0, 1), always_used, SEVEN[:1] + (((-1,), (1,), (1, 2)),))
        self.assert_told(tuple(range(16)), always_used, SIGNS)
        self.assert_told((), always_used, (2, ((-2,), (-1,), (1,), (2,))))
        self.assert_told((), always_used, without(SIGNS, 0))

    def test_the_empty_clause(self):
        self.assert_told((0,), always_used, (1, ((),)))
        self.assert_told((0,), always_used, (7, ((), (-1,))))
        self.assert_told((), always_used, (1, ((), (-1,), (1,))))

    def test_not_at_odds(self):
        for names in range(1, 8):
            self.assert_told((), always_used, (names, ()))
            self.assert_told((), always_used, (names, ((names,),)))

    def test_by_all_settings(self):
        for bundle in bundles():
            wanted = tuple(k for k in range(len(bundle[1]))
                           if not is_met_by_some(bundle) and is_met_by_some(without(bundle, k)))
            self.assert_told(wanted, always_used, bundle)

    def test_each_refutation_uses_them(self):
        for bundle in bundles():
            found = set(always_used(bundle))
            self.assertLessEqual(found, set(kernel(bundle)))
            chains = [refutation(bundle)] + [used_paper(bundle, k)[1] for k in kernel(bundle)]
            for chain in chains:
                if chain is not None:
                    self.assertLessEqual(found, uses_of(chain))

    def test_by_all_chains(self):
        for bundle in small_bundles():
            wanted = tuple(k for k in range(len(bundle[1]))
                           if ((), True) in all_led(bundle, k) and ((), False) not in all_led(bundle, k))
            self.assertEqual(always_used(bundle), wanted)

    def test_bundle_needed(self):
        self.assert_needs_bundle(always_used)


class SingleChain(Case):
    def test_each_literal(self):
        for bundle in bundles():
            names = names_in([bundle[1][k] for k in used_numbers(bundle)])
            for literal in range(-bundle[0], bundle[0] + 1):
                if literal != 0:
                    self.check(bundle, literal, abs(literal) in names)

    def check(self, bundle, literal, wanted):
        chain = single_chain(bundle, literal)
        self.assertEqual(chain is not None, wanted, (bundle, literal))
        if wanted:
            found, _ = chain_read(bundle, chain)
            self.assertEqual(found[-1], (literal,))
            self.assertLessEqual(len(chain), 2000)
            self.assertEqual(clauses_of(bundle, chain), tuple(found))
            self.assertEqual(single_chain(bundle, literal), chain)

    def test_ordinary(self):
        self.assert_told((("clause", 1),), single_chain, ABC, -1)
        self.assert_told((("clause", 3),), single_chain, ABC, 1)
        for literal in (2, -2):
            chain = self.assert_same_again(single_chain, ABC, literal)
            self.assertEqual(chain_read(ABC, chain)[0][-1], (literal,))
        for literal in (3, -3, 4, -4):
            self.assert_told(None, single_chain, ABC, literal)

    def test_none_though_a_chain_leads_there(self):
        self.assert_told(None, single_chain, (1, ((1,),)), 1)
        self.assert_told(None, single_chain, (3, ((-2,), (1, 2))), 1)
        self.assert_told(None, single_chain, (2, ((), (1,))), 1)

    def test_wrong_literals(self):
        for thing in odd_things() + odd_tuples() + odd_integers() + [0, 5, -5, 8, -8, (), (1,)]:
            self.assert_keeps_given(BadClause, single_chain, ABC, thing)
            self.assert_keeps_given(BadClause, single_chain, (4, ()), thing)
        for names in range(1, 8):
            for literal in (names + 1, -names - 1):
                self.assert_keeps_given(BadClause, single_chain, (names, ((),)), literal)

    def test_bundle_first(self):
        for thing in (1, 0, 99, None, True, (1,)):
            self.assert_needs_bundle(single_chain, thing)


class OneSettingMeetsTheRest(Case):
    def test_kernel_papers(self):
        for bundle in bundles():
            _, setting = kernel_paper(bundle)
            for number, clause in enumerate(bundle[1]):
                self.assertEqual(does_meet(setting, clause), number not in used_numbers(bundle))


if __name__ == "__main__":
    unittest.main()
