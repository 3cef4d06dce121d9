"""The class and the function of idleclauses.bench: point [32]."""

import random
import unittest

from idleclauses.bench import Bench, under
from idleclauses.bundles import need_bundle
from idleclauses.errors import BadBundle, BadClause, BadNumber, Missing, NothingLeft, TooMany
from tests.helper import (
    AGREEING, Case, all_rows, does_meet, does_touch, layered_bundles, named_bundles, odd_integers,
    odd_things, odd_tuples, small_bundles, some_bundles,
)
from tests.opinions import is_row, used_numbers
from tests.opinions_names import short_bundles

AB = (2, ((-1, 2), (1,)))
ODDS = (3, ((-3,), (-2,), (-1, 2), (1,), (2, 3)))
SIXTEEN = (7, tuple(sorted((a * x, b * y) for a, b in ((1, 2), (3, 4), (5, 6), (6, 7))
                           for x in (1, -1) for y in (1, -1))))
ODD = odd_things() + odd_tuples() + odd_integers()


def used_rows(bundle):
    """The USED CLAUSES, by all TIDY SETTINGS."""
    return [bundle[1][k] for k in used_numbers(bundle)]


class Model:
    """What a Bench has to be, told plainly: the BUNDLES ahead, and the one now."""

    def __init__(self, bundle):
        self.rows = [bundle]
        self.deeds = []

    @property
    def now(self):
        return self.rows[-1]

    def lead(self, deed, clauses):
        self.deeds.append(deed)
        self.rows.append((self.now[0], tuple(sorted(clauses))))

    def undo(self, many):
        del self.rows[-many:]
        del self.deeds[-many:]


class BenchCase(Case):
    def same(self, bench, model):
        """All that a Bench tells without a deed is as the Model has it; asked twice."""
        for _ in range(2):
            self.assertEqual(bench.bundle, model.now)
            self.assertIs(need_bundle(bench.bundle), bench.bundle)
            self.assertEqual(bench.kernel_now(), used_numbers(model.now))
            self.assertEqual(len(bench), len(model.deeds))

    def put(self, bench, model, clause):
        """A put of what is a CLAUSE."""
        ahead = model.now
        if clause not in ahead[1] and len(ahead[1]) == 16:
            self.refused(bench, model, TooMany, "most", 16, bench.put, clause)
            return
        model.lead(("put", clause), {*ahead[1], clause})
        was = used_rows(ahead)
        found = bench.put(clause)
        self.assertEqual(found, tuple(row for row in used_rows(model.now) if row not in was))
        self.assertTrue(set(was) <= set(used_rows(model.now)))
        self.same(bench, model)

    def strike(self, bench, model, clause):
        """A strike of what is a CLAUSE, perhaps of none that is there."""
        ahead = model.now
        if clause not in ahead[1]:
            self.refused(bench, model, Missing, "given", clause, bench.strike, clause)
            return
        model.lead(("strike", clause), set(ahead[1]) - {clause})
        left = used_rows(model.now)
        found = bench.strike(clause)
        self.assertEqual(found, tuple(row for row in used_rows(ahead) if row != clause and row not in left))
        self.assertTrue(set(left) <= set(used_rows(ahead)))
        self.same(bench, model)

    def settle(self, bench, model):
        """A settle."""
        names, clauses = ahead = model.now
        used = used_rows(ahead)
        model.lead(("settle",), used)
        setting = bench.settle()
        self.assertTrue(is_row(names, setting))
        for row in clauses:
            self.assertEqual(does_meet(setting, row), row not in used)
            self.assertEqual(does_touch(setting, row), row not in used)
        self.assertEqual(used_rows(model.now), used)
        self.same(bench, model)

    def undo(self, bench, model, many):
        """An undo of so many deeds, perhaps of more than there are."""
        if many > len(model.deeds):
            self.refused(bench, model, NothingLeft, "many", many, bench.undo, many)
            return
        model.undo(many)
        self.assertIsNone(bench.undo(many))
        self.same(bench, model)

    def refused(self, bench, model, kind, field, wanted, action, *given):
        """The call raises this error, and changes nothing, nor what can be taken back."""
        ahead = bench.copy()
        self.assert_refused(kind, field, wanted, action, *given)
        self.assertTrue(bench == ahead)
        self.same(bench, model)
        taken, deeds = bench.copy(), len(model.deeds)
        if deeds:
            taken.undo(deeds)
            self.assertEqual(taken.bundle, model.rows[0])


class Began(BenchCase):
    def test_each_bundle(self):
        for bundle in small_bundles()[::5] + named_bundles() + some_bundles(40):
            self.same(Bench(bundle), Model(bundle))
            self.assertIs(Bench(bundle).bundle, bundle)

    def test_wrong_bundles(self):
        self.assert_needs_bundle(Bench)

    def test_bundle_is_only_read(self):
        bench = Bench(AB)
        with self.assertRaises(AttributeError):
            bench.bundle = ODDS
        self.same(bench, Model(AB))


class Deeds(BenchCase):
    def test_put(self):
        bench, model = Bench(AB), Model(AB)
        self.assertEqual(bench.put((-2,)), ((-2,), (-1, 2), (1,)))
        model.lead(("put", (-2,)), AB[1] + ((-2,),))
        self.same(bench, model)
        self.put(bench, model, (2,))
        self.put(bench, model, ())
        self.assertEqual(bench.bundle, (2, ((), (-2,), (-1, 2), (1,), (2,))))
        self.assertEqual(bench.kernel_now(), (0, 1, 2, 3, 4))

    def test_put_of_one_that_is_there(self):
        bench = Bench(ODDS)
        for many, clause in enumerate(ODDS[1], 1):
            self.assertEqual(bench.put(clause), ())
            self.assertEqual(len(bench), many)
            self.assertEqual(bench.bundle, ODDS)
        self.assertIsNone(bench.undo(5))
        self.assertEqual(bench.bundle, ODDS)

    def test_put_tells_only_what_became_used(self):
        bench = Bench((2, ((-1,), (1,), (1, 2))))
        self.assertEqual(bench.kernel_now(), (0, 1))
        self.assertEqual(bench.put((-2,)), ((-2,), (1, 2)))
        self.assertEqual(bench.put((-1, 2)), ((-1, 2),))

    def test_put_of_a_17th(self):
        bench, model = Bench(SIXTEEN), Model(SIXTEEN)
        for clause in ((), (1,), (1, 2, 3)):
            self.put(bench, model, clause)
        self.assertEqual(len(bench), 0)
        self.put(bench, model, SIXTEEN[1][3])
        self.assertEqual(len(bench), 1)
        self.strike(bench, model, SIXTEEN[1][3])
        self.put(bench, model, ())
        self.put(bench, model, (7,))

    def test_put_of_no_clause(self):
        bench, model = Bench(ODDS), Model(ODDS)
        bench.put((1,))
        model.lead(("put", (1,)), ODDS[1])
        for thing in ODD + [0, 1, (4,), (-4,), (2, 1)]:
            self.assert_refused(BadClause, "given", thing, bench.put, thing)
        self.refused(bench, model, BadClause, "given", (4,), bench.put, (4,))
        full = Bench(SIXTEEN)
        for thing in ((8,), None, (True,)):
            self.refused(full, Model(SIXTEEN), BadClause, "given", thing, full.put, thing)

    def test_strike(self):
        bench, model = Bench(ODDS), Model(ODDS)
        self.assertEqual(bench.strike((-2,)), ((-3,), (-1, 2), (1,), (2, 3)))
        model.lead(("strike", (-2,)), [row for row in ODDS[1] if row != (-2,)])
        self.same(bench, model)
        self.strike(bench, model, (1,))
        self.assertEqual(bench.bundle, (3, ((-3,), (-1, 2), (2, 3))))
        bench = Bench(ODDS)
        self.assertEqual(bench.strike((1,)), ((-1, 2),))
        self.assertEqual(bench.strike((-1, 2)), ())

    def test_strike_of_none_of_its_clauses(self):
        bench, model = Bench(ODDS), Model(ODDS)
        for thing in ODD + [0, 1, (), (2,), (4,), (-1,), [1], (True,), ((1,),), (1, 0), (AGREEING,), AGREEING]:
            if not (is_row(3, thing) and thing in ODDS[1]):
                self.assert_refused(Missing, "given", thing, bench.strike, thing)
        self.refused(bench, model, Missing, "given", (2,), bench.strike, (2,))
        with self.assertRaises(KeyError):
            bench.strike((2,))

    def test_settle(self):
        bundle = (3, ((-3,), (-2, 3), (-1,), (1,), (2, -3)))
        bench, model = Bench(bundle), Model(bundle)
        self.settle(bench, model)
        self.assertEqual(bench.bundle, (3, ((-1,), (1,))))
        self.settle(bench, model)
        self.assertEqual(len(bench), 2)
        bench.undo()
        self.assertEqual(bench.bundle, (3, ((-1,), (1,))))
        bench.undo()
        self.assertEqual(bench.bundle, bundle)

    def test_settle_that_takes_nothing_away(self):
        for bundle in (ODDS, (1, ()), (7, ()), (7, ((),)), (1, ((-1,), (1,)))):
            bench, model = Bench(bundle), Model(bundle)
            self.settle(bench, model)
            self.assertEqual((bench.bundle, len(bench)), (bundle, 1))

    def test_undo(self):
        bench, model = Bench(AB), Model(AB)
        self.undo(bench, model, 1)
        for clause in ((2,), (-2,), (1, 2), ()):
            self.put(bench, model, clause)
        bench.undo()
        model.undo(1)
        self.same(bench, model)
        bench.undo(many=1)
        model.undo(1)
        self.same(bench, model)
        self.undo(bench, model, 3)
        self.undo(bench, model, 2)
        self.undo(bench, model, 1)
        self.assertEqual(bench.bundle, AB)

    def test_undo_of_all_deeds_and_of_one_more(self):
        bench, model = Bench(ODDS), Model(ODDS)
        for clause in ODDS[1]:
            self.strike(bench, model, clause)
        for many in (6, 7, 10 ** 59):
            self.undo(bench, model, many)
        self.undo(bench, model, 5)
        self.assertEqual(bench.bundle, ODDS)
        self.undo(bench, model, 1)
        with self.assertRaises(RuntimeError):
            bench.undo()

    def test_undo_of_no_number(self):
        for bench in (Bench(AB), Bench(ODDS)):
            bench.put((1,))
            model = Model(bench.bundle)
            model.lead(("put", (1,)), bench.bundle[1])
            for thing in odd_things() + odd_tuples() + [0, -1, -10 ** 59, ()]:
                self.assert_refused(BadNumber, "given", thing, bench.undo, thing)
            self.refused(bench, model, BadNumber, "given", 0, bench.undo, 0)


class Runs(BenchCase):
    def run_of_deeds(self, chance, bench, model, many):
        """So many deeds, of each sort, or such as are refused."""
        names = model.now[0]
        rows = [row for row in all_rows(names) if len(row) < 4]
        for _ in range(many):
            sort = chance.random()
            if sort < 0.4:
                self.put(bench, model, chance.choice(rows))
            elif sort < 0.5 and model.now[1]:
                self.put(bench, model, chance.choice(model.now[1]))
            elif sort < 0.7:
                self.strike(bench, model, chance.choice(model.now[1] or rows))
            elif sort < 0.75:
                self.strike(bench, model, chance.choice(rows))
            elif sort < 0.8:
                self.settle(bench, model)
            else:
                self.undo(bench, model, chance.choice((1, 1, 1, 2, 3, 8)))

    def test_runs(self):
        chance = random.Random(67)
        for bundle in named_bundles()[::3] + some_bundles(16) + layered_bundles(16) + short_bundles(16):
            if bundle[0] < 6:
                bench, model = Bench(bundle), Model(bundle)
                self.run_of_deeds(chance, bench, model, 25)
                if model.deeds:
                    self.undo(bench, model, len(model.deeds))
                self.assertEqual(bench.bundle, bundle)

    def test_copies_go_on_by_themselves(self):
        chance = random.Random(68)
        for bundle in some_bundles(20) + layered_bundles(20):
            if bundle[0] < 5:
                bench, model = Bench(bundle), Model(bundle)
                self.run_of_deeds(chance, bench, model, 6)
                other, beside = bench.copy(), Model(bundle)
                beside.rows, beside.deeds = list(model.rows), list(model.deeds)
                self.assertIsInstance(other, Bench)
                self.assertIsNot(other, bench)
                self.same(other, beside)
                self.run_of_deeds(chance, bench, model, 5)
                self.same(other, beside)
                self.run_of_deeds(chance, other, beside, 5)
                self.same(bench, model)
                for one, told in ((bench, model), (other, beside)):
                    if told.deeds:
                        self.undo(one, told, len(told.deeds))
                    self.assertEqual(one.bundle, bundle)

    def test_trials_with_runs(self):
        chance = random.Random(69)
        for bundle in some_bundles(25) + layered_bundles(15):
            if bundle[0] < 5:
                bench, model = Bench(bundle), Model(bundle)
                self.run_of_deeds(chance, bench, model, 5)
                ahead = bench.copy()
                with bench.trial() as held:
                    self.assertIs(held, bench)
                    inner = Model(bundle)
                    inner.rows, inner.deeds = list(model.rows), list(model.deeds)
                    self.run_of_deeds(chance, bench, inner, 8)
                self.same(bench, model)
                self.assertTrue(bench == ahead)
                self.run_of_deeds(chance, bench, model, 4)


class Trials(BenchCase):
    def test_deeds_of_before_taken_back_in_it(self):
        bench, model = Bench(AB), Model(AB)
        self.put(bench, model, (2,))
        self.put(bench, model, ())
        with bench.trial() as held:
            held.undo(2)
            self.assertEqual(bench.bundle, AB)
            held.strike((1,))
        self.same(bench, model)
        self.undo(bench, model, 1)
        self.undo(bench, model, 1)
        self.undo(bench, model, 1)

    def test_an_error_goes_on(self):
        bench, model = Bench(AB), Model(AB)
        self.put(bench, model, (2,))
        for raised, action in ((Missing, lambda: bench.strike((-2,))), (BadClause, lambda: bench.put(3)),
                               (NothingLeft, lambda: bench.undo(9)), (ZeroDivisionError, lambda: 1 // 0)):
            with self.assertRaises(raised):
                with bench.trial():
                    bench.put((-2,))
                    bench.undo()
                    bench.undo()
                    bench.settle()
                    action()
            self.same(bench, model)

    def test_within_one_another(self):
        bench, model = Bench(AB), Model(AB)
        with bench.trial() as one:
            one.put((2,))
            with one.trial() as other:
                self.assertIs(other, bench)
                other.undo()
                other.put(())
                other.put((-2,))
                self.assertEqual(bench.bundle, (2, ((), (-2,), (-1, 2), (1,))))
            self.assertEqual(bench.bundle, (2, ((-1, 2), (1,), (2,))))
            self.assertEqual(len(bench), 1)
            with self.assertRaises(BadNumber):
                with bench.trial():
                    bench.settle()
                    with bench.trial():
                        bench.put(())
                        bench.undo(0)
            self.assertEqual(bench.bundle, (2, ((-1, 2), (1,), (2,))))
            bench.undo()
            self.assertEqual(bench.bundle, AB)
        self.same(bench, model)

    def test_it_begins_with_the_block(self):
        bench, model = Bench(AB), Model(AB)
        trial = bench.trial()
        self.put(bench, model, (2,))
        with trial as held:
            held.put(())
        self.same(bench, model)
        self.undo(bench, model, 1)

    def test_one_behind_the_other(self):
        bench, model = Bench(AB), Model(AB)
        for _ in range(3):
            with bench.trial():
                bench.put((-2,))
                bench.put(())
            self.same(bench, model)
            self.put(bench, model, (2,))

    def test_left_early(self):
        bench, model = Bench(AB), Model(AB)
        for clause in ((2,), (-2,)):
            with bench.trial():
                bench.put(clause)
                continue
        self.same(bench, model)

    def test_a_copy_out_of_it_stays(self):
        bench = Bench(AB)
        with bench.trial():
            bench.put(())
            other = bench.copy()
        self.assertEqual(other.bundle, (2, ((), (-1, 2), (1,))))
        self.assertEqual(bench.bundle, AB)
        other.undo()
        self.assertEqual(other.bundle, AB)


class Under(BenchCase):
    def test_what_the_deed_returns(self):
        bench, model = Bench(AB), Model(AB)
        given = []

        def deed(one):
            given.append(one)
            return one.put((-2,)), one.bundle

        self.assertEqual(under(bench.trial(), deed), (((-2,), (-1, 2), (1,)), (2, ((-2,), (-1, 2), (1,)))))
        self.assertIs(given[0], bench)
        self.assertEqual(len(given), 1)
        self.same(bench, model)
        for thing in (None, 5, (), bench):
            self.assertIs(under(bench.trial(), lambda one: thing), thing)

    def test_a_deed_that_raises(self):
        bench, model = Bench(AB), Model(AB)
        self.put(bench, model, (2,))
        for kind, deed in ((Missing, lambda one: one.strike((-2,))), (NothingLeft, lambda one: one.undo(4)),
                           (BadBundle, lambda one: Bench(one.put((-2,)))), (ValueError, lambda one: int("x"))):
            with self.assertRaises(kind):
                under(bench.trial(), lambda one: (one.put(()), one.undo(2), deed(one)))
            self.same(bench, model)

    def test_within_one_another(self):
        bench, model = Bench(AB), Model(AB)
        told = under(bench.trial(), lambda one: (one.put(()), under(one.trial(), lambda two: (
            two.undo(), len(two))), len(one)))
        self.assertEqual(told, (((),), (None, 0), 1))
        self.same(bench, model)

    def test_other_managers(self):
        class Other:
            """Gives itself, and keeps what was told at the end."""

            def __enter__(self):
                return self, 7

            def __exit__(self, kind, value, trace):
                self.told = kind

        manager = Other()
        self.assertEqual(under(manager, lambda one: one[1]), 7)
        self.assertIsNone(manager.told)
        with self.assertRaises(KeyError):
            under(manager, lambda one: {}[one])
        self.assertIs(manager.told, KeyError)


class Alike(BenchCase):
    def test_alike(self):
        one, other = Bench(ODDS), Bench((3, tuple(ODDS[1])))
        self.assertIs(one == other, True)
        self.assertIs(one != other, False)
        for deed in (lambda b: b.put((2,)), lambda b: b.strike((1,)), lambda b: b.settle(), lambda b: b.put((2,))):
            deed(one)
            self.assertIs(one == other, False)
            self.assertIs(one != other, True)
            deed(other)
            self.assertIs(one == other, True)
        one.undo(2)
        self.assertFalse(one == other)
        other.undo()
        other.undo()
        self.assertTrue(one == other)

    def test_the_same_bundle_by_other_deeds(self):
        ends = [Bench(AB), Bench(AB), Bench(AB), Bench(AB), Bench(AB), Bench(AB), Bench((2, ((-1, 2),))),
                Bench((3, AB[1]))]
        ends[1].put((1,))
        ends[2].put((-1, 2))
        ends[3].put((2,))
        ends[3].strike((2,))
        ends[4].strike((1,))
        ends[4].put((1,))
        ends[5].put((1,))
        ends[5].put((1,))
        ends[6].put((1,))
        for at, one in enumerate(ends):
            for place, other in enumerate(ends):
                self.assertIs(one == other, at == place, (at, place))
                self.assertIs(one != other, at != place)

    def test_another_beginning(self):
        one, other = Bench((1, ((1,),))), Bench((1, ()))
        one.put((-1,))
        other.put((-1,))
        other.put((1,))
        one.strike((1,))
        one.put((1,))
        self.assertEqual(one.bundle, other.bundle)
        self.assertFalse(one == other)
        one, other = Bench((1, ((1,),))), Bench((1, ((-1,),)))
        for bench in (one, other):
            bench.settle()
        self.assertEqual(one.bundle, other.bundle)
        self.assertFalse(one == other)

    def test_what_was_taken_back_does_not_count(self):
        one, other = Bench(ODDS), Bench(ODDS)
        one.put((2,))
        one.settle()
        one.undo(2)
        self.assertTrue(one == other)
        with one.trial():
            one.put((2,))
            self.assertFalse(one == other)
        self.assertTrue(one == other)
        self.assertTrue(one.copy() == other)

    def test_no_bench(self):
        bench = Bench(AB)
        for thing in ODD + [AB, bench.trial(), Bench, 0, 1, ()]:
            self.assertIs(bench == thing, False)
            self.assertIs(bench != thing, True)
        self.assertIs(bench == bench, True)


if __name__ == "__main__":
    unittest.main()
