"""The functions of idleclauses.chains: point [4]."""

import random
import unittest

from idleclauses.bundles import without
from idleclauses.chains import clauses_of, need_chain, refutation, uses
from idleclauses.errors import BadChain
from tests.helper import (
    Case, layered_bundles, named_bundles, odd_integers, odd_things, odd_tuples, small_bundles,
    some_bundles,
)
from tests.opinions import chain_read, changed, is_met_by_some, is_refuted_by, step_clause, uses_of

ABC = (3, ((-3,), (-2, 3), (-1, 2), (1, 2), (1, 3)))
STEPS = (("clause", 3), ("clause", 2), ("by", 0, 1, 1), ("clause", 1), ("by", 2, 3, 2),
         ("clause", 0), ("by", 4, 5, 3))
ONE = (1, ((-1,), (1,)))
TAKING = (need_chain, clauses_of, uses)


def some_chain(chance, bundle, many):
    """A CHAIN with many STEPS, each made with what is at hand, whatever it leads to."""
    steps, led = [], []
    while len(steps) < many:
        step = ("clause", chance.randrange(len(bundle[1])))
        if led and chance.random() < 0.9:
            one, other = chance.randrange(len(led)), chance.randrange(len(led))
            step = ("by", one, other, chance.randint(1, bundle[0]))
        clause = step_clause(bundle, led, step)
        if clause is not None:
            steps.append(step)
            led.append(clause)
    return tuple(steps)


class NeedChain(Case):
    def test_tells_the_very_thing(self):
        for chain in (STEPS, STEPS[:1], STEPS[:3], (("clause", 4),) * 2000):
            self.assertIs(need_chain(ABC, chain), chain)
            self.assert_told(chain, need_chain, ABC, chain)

    def test_no_tuple_and_no_steps(self):
        for action in TAKING:
            for thing in odd_things() + odd_integers() + [(), [("clause", 0)], list(STEPS), 0, 1]:
                self.assert_refused(BadChain, "number", None, action, ABC, thing)
            self.assert_refused(BadChain, "number", None, action, (1, ()), ())

    def test_2000_steps_but_not_2001(self):
        up_and_down = [("clause", 0), ("clause", 1)] + [("by", 1, 0, 1)] * 1998
        for action in TAKING:
            self.assert_refused(BadChain, "number", None, action, ABC, (("clause", 0),) * 2001)
            self.assert_refused(BadChain, "number", None, action, ABC, (None,) * 2001)
            self.assert_refused(BadChain, "number", None, action, ABC, ((),) * 20000)
            self.assert_refused(BadChain, "number", 0, action, ABC, (None,) * 2000)
            self.assert_refused(BadChain, "number", 1999, action, ABC, (("clause", 0),) * 1999 + (0,))
            self.assert_refused(BadChain, "number", None, action, ONE, (*up_and_down, None))
        self.assert_told(((-3,),) * 2000, clauses_of, ABC, (("clause", 0),) * 2000)
        self.assert_told(((-1,), (1,)) + ((),) * 1998, clauses_of, ONE, tuple(up_and_down))
        self.assert_told((0, 1), uses, ONE, tuple(up_and_down))

    def test_no_step_whatever_it_is(self):
        wrong = odd_things() + odd_tuples() + odd_integers() + [0, (), ("clause",), ("by",)]
        for action in TAKING:
            for thing in wrong:
                self.assert_refused(BadChain, "number", 0, action, ABC, (thing,))
                self.assert_refused(BadChain, "number", 0, action, ABC, (thing, None))
                self.assert_refused(BadChain, "number", 7, action, ABC, (*STEPS, thing, ("clause", 0)))

    def test_wrong_words(self):
        for word in odd_things() + odd_tuples() + odd_integers() + ["Clause", "clause ", "used", ()]:
            self.assert_refused(BadChain, "number", 0, need_chain, ABC, ((word, 0),))
            self.assert_refused(BadChain, "number", 2, need_chain, ABC, STEPS[:2] + ((word, 0, 1, 1),))
        self.assert_refused(BadChain, "number", 2, need_chain, ABC, STEPS[:2] + (("clause", 0, 1, 1),))
        self.assert_refused(BadChain, "number", 2, need_chain, ABC, STEPS[:2] + (("by", 0),))

    def test_wrong_numbers_of_clauses(self):
        for thing in odd_things() + odd_tuples() + odd_integers() + [5, -1, -5, ()]:
            self.assert_refused(BadChain, "number", 0, need_chain, ABC, (("clause", thing),))
            self.assert_refused(BadChain, "number", 7, uses, ABC, (*STEPS, ("clause", thing)))
        self.assert_refused(BadChain, "number", 0, need_chain, ABC, (("clause", 0, 0),))
        self.assert_refused(BadChain, "number", 0, need_chain, ABC, (["clause", 0],))
        for names in (1, 7):
            self.assert_refused(BadChain, "number", 0, need_chain, (names, ()), (("clause", 0),))

    def test_wrong_numbers_of_steps_and_names(self):
        for thing in odd_things() + odd_tuples() + odd_integers() + [2, 3, -1, -2, ()]:
            for step in (("by", thing, 1, 1), ("by", 0, thing, 1)):
                self.assert_refused(BadChain, "number", 2, need_chain, ABC, STEPS[:2] + (step,) + STEPS)
        for thing in odd_things() + odd_tuples() + odd_integers() + [0, 2, 3, 4, -1, ()]:
            step = ("by", 0, 1, thing)
            self.assert_refused(BadChain, "number", 2, need_chain, ABC, STEPS[:2] + (step,) + STEPS)

    def test_by_must_have_four_things(self):
        for step in (("by", 0, 1), ("by", 0, 1, 1, 1), ("by", 0, 1, 1, None), ["by", 0, 1, 1],
                     ("by", (0, 1), 1), ("by", 0, 1, (1,)), (("by", 0, 1, 1),)):
            self.assert_refused(BadChain, "number", 2, need_chain, ABC, STEPS[:2] + (step,))

    def test_itself_and_later_ones(self):
        for at in (0, 1, 2, 10 ** 59):
            self.assert_refused(BadChain, "number", 0, need_chain, ONE, (("by", at, 1, 1), ("clause", 0)))
        chain = (("clause", 1), ("by", 0, 2, 1), ("clause", 0))
        self.assert_refused(BadChain, "number", 1, need_chain, ONE, chain)
        self.assert_refused(BadChain, "number", 1, need_chain, ONE, (("clause", 1), ("by", 0, 1, 1)))

    def test_the_name_stands_as_told(self):
        ahead = (("clause", 0), ("clause", 1))
        self.assert_told(((-1,), (1,), ()), clauses_of, ONE, ahead + (("by", 1, 0, 1),))
        for step in (("by", 0, 1, 1), ("by", 0, 0, 1), ("by", 1, 1, 1), ("by", 1, 0, 2),
                     ("by", 1, 0, 0), ("by", 0, 1, -1), ("by", 1, 0, -1), ("by", 1, 0, True)):
            self.assert_refused(BadChain, "number", 2, need_chain, ONE, ahead + (step,))

    def test_no_other_name_is_contrary(self):
        bundle = (3, ((-1, -2), (-1, -2, 3), (-1, 2), (1, 2), (1, 2, -3)))
        for one, other, name in ((3, 0, 1), (3, 0, 2), (4, 1, 1), (4, 1, 2), (1, 4, 3)):
            chain = (("clause", one), ("clause", other), ("by", 0, 1, name))
            self.assert_refused(BadChain, "number", 2, need_chain, bundle, chain)
        chain = (("clause", 4), ("clause", 2), ("by", 0, 1, 1))
        self.assert_told(((1, 2, -3), (-1, 2), (2, -3)), clauses_of, bundle, chain)

    def test_something_otherwise_at_any_place(self):
        chance = random.Random(3)
        chains = [(ABC, STEPS), (ABC, STEPS[:1]), (ONE, (("clause", 1), ("clause", 0), ("by", 0, 1, 1)))]
        for bundle in [b for b in some_bundles(24) if b[1]]:
            chains.append((bundle, some_chain(chance, bundle, 6)))
        for bundle, chain in chains:
            for thing in changed(chain):
                found, number = chain_read(bundle, thing)
                if found is None:
                    self.assert_refused(BadChain, "number", number, need_chain, bundle, thing)
                else:
                    self.assert_told(tuple(found), clauses_of, bundle, thing)

    def test_bundle_first(self):
        for action in TAKING:
            for thing in (STEPS, (), None, (("clause", 99),), [], (("clause", 0),)):
                self.assert_needs_bundle(action, thing)


class WhereItLeads(Case):
    def test_ordinary(self):
        wanted = ((1, 2), (-1, 2), (2,), (-2, 3), (3,), (-3,), ())
        self.assert_told(wanted, clauses_of, ABC, STEPS)
        self.assert_told((0, 1, 2, 3), uses, ABC, STEPS)
        self.assert_told((2, 3), uses, ABC, STEPS[:3])
        self.assert_told((1,), uses, ABC, STEPS[:4])
        self.assert_told((0,), uses, ABC, STEPS[:6])

    def test_names_ascend_in_what_comes_out(self):
        bundle = (5, ((-3, 4), (-2, 3, 5), (1, 2)))
        chain = (("clause", 2), ("clause", 1), ("by", 0, 1, 2), ("clause", 0), ("by", 2, 3, 3))
        self.assert_told(((1, 2), (-2, 3, 5), (1, 3, 5), (-3, 4), (1, 4, 5)), clauses_of, bundle, chain)

    def test_one_step(self):
        for bundle in small_bundles() + named_bundles():
            for number, clause in enumerate(bundle[1]):
                chain = (("clause", number),)
                self.assert_told((clause,), clauses_of, bundle, chain)
                self.assert_told((number,), uses, bundle, chain)

    def test_uses_only_what_leads_to_the_last_step(self):
        beside = (("clause", 4),) + tuple(
            ("by", step[1] + 1, step[2] + 1, step[3]) if step[0] == "by" else step for step in STEPS)
        self.assert_told((0, 1, 2, 3), uses, ABC, beside)
        self.assert_told((4,), uses, ABC, (*beside, ("clause", 4)))
        self.assert_told((2, 3), uses, ABC, (*STEPS, ("by", 0, 1, 1)))

    def test_a_clause_that_is_led_to_and_given(self):
        bundle = (2, ((-1, 2), (1, 2), (2,)))
        chain = (("clause", 1), ("clause", 0), ("by", 0, 1, 1), ("clause", 2))
        self.assert_told((2,), uses, bundle, chain)
        self.assert_told((0, 1), uses, bundle, chain[:3])

    def test_many_chains(self):
        chance = random.Random(4)
        for bundle in small_bundles()[3::7] + some_bundles(60) + layered_bundles(30):
            if bundle[1]:
                chain = some_chain(chance, bundle, 12)
                found, _ = chain_read(bundle, chain)
                self.assert_told(tuple(found), clauses_of, bundle, chain)
                self.assert_told(tuple(sorted(uses_of(chain))), uses, bundle, chain)

    def test_a_long_chain(self):
        chance = random.Random(5)
        for bundle in [ABC] + layered_bundles(10)[5:]:
            chain = some_chain(chance, bundle, 2000)
            self.assert_told(tuple(chain_read(bundle, chain)[0]), clauses_of, bundle, chain)
            self.assert_told(tuple(sorted(uses_of(chain))), uses, bundle, chain)
            self.assert_told(chain, need_chain, bundle, chain)


class Refutation(Case):
    def check(self, bundle):
        chain = self.assert_same_again(refutation, bundle)
        self.assertEqual(chain is None, is_met_by_some(bundle), bundle)
        if chain is not None:
            self.assertTrue(is_refuted_by(bundle, chain), bundle)
            self.assertLessEqual(len(chain), 2000)
            self.assertIs(need_chain(bundle, chain), chain)
            self.assertEqual(clauses_of(bundle, chain)[-1], ())
            self.assertEqual(set(uses(bundle, chain)), uses_of(chain))

    def test_many_bundles(self):
        for bundle in small_bundles() + some_bundles(200) + layered_bundles(60) + named_bundles():
            self.check(bundle)

    def test_each_sign_of_four_names(self):
        bundle = named_bundles()[8]
        self.check(bundle)
        self.assertEqual(uses(bundle, refutation(bundle)), tuple(range(16)))
        for number in range(16):
            self.assert_told(None, refutation, without(bundle, number))

    def test_none(self):
        for names in range(1, 8):
            self.assert_told(None, refutation, (names, ()))
            self.assert_told(None, refutation, (names, ((names,),)))

    def test_the_empty_clause(self):
        for names in range(1, 8):
            self.assert_told((("clause", 0),), refutation, (names, ((),)))
            self.check((names, ((), (-names,), (names,))))

    def test_bundle_needed(self):
        self.assert_needs_bundle(refutation)


if __name__ == "__main__":
    unittest.main()
