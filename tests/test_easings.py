"""The functions of idleclauses.easings: points [29], [30] and [31]."""

import itertools
import random
import unittest

from idleclauses.easings import (
    check_cost, cheapest_easing, cost_paper, is_easing, least_cost, least_easings, limit_of,
)
from idleclauses.errors import BadNumber, BadNumbers, BadPaper, BadPrices
from tests.helper import Case, named_bundles, odd_integers, odd_things, odd_tuples, whole_settings
from tests.opinions import changed, uses_of, used_numbers
from tests.opinions_lots import bundles as lot_bundles, fewer_bundles, lots_of
from tests.opinions_names import all_numbers, are_numbers
from tests.opinions_terms import (
    are_prices, cost_of, cost_verdict, drawn_prices, easings_of, least_of, limit_by, unmet_by,
    unmet_lots,
)

SQUARE = (2, ((-1, -2), (-1, 2), (1, -2), (1, 2)))
# The clauses 1, 2 and 3 are at odds, and 0, 1 and 4.
ODDS = (3, ((-3,), (-2,), (-1, 2), (1,), (2, 3)))
MET = (3, ((-1, 2), (1, 3)))
EMPTY = (2, ((), (-1,), (1,)))
SIGNS = named_bundles()[8]
SEVEN = named_bundles()[9]
ODD = odd_things() + odd_tuples() + odd_integers()


def bundles():
    """BUNDLES of many kinds, with few CLAUSES enough that all lots of them can be tried."""
    return [bundle for bundle in lot_bundles()[::2] if len(bundle[1]) < 11]


def priced(many=2, seed=63):
    """Pairs of a BUNDLE and PRICES."""
    chance = random.Random(seed)
    return [(bundle, drawn_prices(chance, bundle)) for bundle in bundles() for _ in range(many)]


def least_by(bundle, prices):
    """The LEAST COST, by all whole SETTINGS."""
    return min(cost_of(prices, unmet) for unmet in unmet_lots(bundle))


def wrong_prices(bundle):
    """Things of many kinds that are no PRICES of a BUNDLE."""
    row = (1,) * len(bundle[1])
    found = ODD + [0, 1, list(row), row[1:], row + (1,), (row,), str(row), {0: 1}, (1001,) * len(row)]
    for at in range(len(row)):
        for thing in (None, True, False, -1, 1001, "1", b"1", (1,), [1], 10 ** 59, -10 ** 59, 1j):
            found.append(row[:at] + (thing,) + row[at + 1:])
    return [thing for thing in found if not are_prices(bundle, thing)]


class IsEasing(Case):
    def test_ordinary(self):
        self.assert_told(False, is_easing, SQUARE, ())
        for number in range(4):
            self.assert_told(True, is_easing, SQUARE, (number,))
        self.assert_told(True, is_easing, SQUARE, (0, 1, 2, 3))
        self.assert_told(False, is_easing, ODDS, (0,))
        self.assert_told(True, is_easing, ODDS, (1,))
        self.assert_told(False, is_easing, ODDS, (0, 4))
        self.assert_told(False, is_easing, ODDS, (2, 3))
        self.assert_told(True, is_easing, ODDS, (0, 2))
        self.assert_told(True, is_easing, ODDS, (0, 1, 4))

    def test_all_numbers(self):
        for bundle in bundles():
            wanted = set(easings_of(bundle))
            for numbers in all_numbers(bundle)[::max(1, len(bundle[1]) - 4)]:
                self.assertIs(is_easing(bundle, numbers), numbers in wanted)

    def test_fact_that_each_refutation_uses_one(self):
        for bundle in fewer_bundles():
            found = lots_of(bundle)
            for numbers in all_numbers(bundle)[::3]:
                wanted = all(set(lot) & set(numbers) for lot in found)
                self.assert_told(wanted, is_easing, bundle, numbers)

    def test_not_at_odds(self):
        for bundle in (MET, (1, ()), (7, ()), (1, ((1,),))):
            for numbers in all_numbers(bundle):
                self.assert_told(True, is_easing, bundle, numbers)

    def test_the_empty_clause(self):
        self.assert_told(False, is_easing, EMPTY, (1, 2))
        self.assert_told(False, is_easing, EMPTY, (0,))
        self.assert_told(True, is_easing, EMPTY, (0, 2))
        self.assert_told(True, is_easing, (1, ((),)), (0,))
        self.assert_told(False, is_easing, (1, ((),)), ())

    def test_sixteen_clauses(self):
        self.assert_told(False, is_easing, SIGNS, ())
        self.assert_told(True, is_easing, SIGNS, (15,))
        self.assert_told(True, is_easing, SIGNS, tuple(range(16)))
        self.assert_keeps_given(BadNumbers, is_easing, SIGNS, (16,))

    def test_wrong_numbers(self):
        for thing in ODD + [0, 1, (5,), (-1,), (1, 0), (0, 0), (0, 1, 1), (0, 5), [0], (True,), (0, True)]:
            if not are_numbers(ODDS, thing):
                self.assert_keeps_given(BadNumbers, is_easing, ODDS, thing)

    def test_bundle_first(self):
        for thing in ((0,), None, (99,), ()):
            self.assert_needs_bundle(is_easing, thing)


class LeastEasings(Case):
    def test_ordinary(self):
        self.assert_told(((0,), (1,), (2,), (3,)), least_easings, SQUARE)
        self.assert_told(((0, 2), (0, 3), (1,), (2, 4), (3, 4)), least_easings, ODDS)
        self.assert_told(((),), least_easings, MET)
        self.assert_told(((0, 1), (0, 2)), least_easings, EMPTY)

    def test_by_all_numbers(self):
        for bundle in bundles():
            self.assert_told(least_of(easings_of(bundle)), least_easings, bundle)

    def test_by_all_settings_of_sixteen_clauses(self):
        self.assert_told(tuple((k,) for k in range(16)), least_easings, SIGNS)
        for bundle in named_bundles() + lot_bundles():
            if len(bundle[1]) > 10:
                self.assert_told(least_of(set(unmet_lots(bundle))), least_easings, bundle)

    def test_no_clauses(self):
        for names in range(1, 8):
            self.assert_told(((),), least_easings, (names, ()))
            self.assert_told(((0,),), least_easings, (names, ((),)))

    def test_bundle_needed(self):
        self.assert_needs_bundle(least_easings)


class LeastCost(Case):
    def test_ordinary(self):
        self.assert_told(1, least_cost, SQUARE, (3, 1, 4, 1))
        self.assert_told(0, least_cost, SQUARE, (3, 1, 0, 1))
        self.assert_told(10, least_cost, ODDS, (4, 12, 7, 6, 9))
        self.assert_told(9, least_cost, ODDS, (4, 9, 7, 6, 9))
        self.assert_told(0, least_cost, MET, (1000, 1000))
        self.assert_told(7, least_cost, EMPTY, (5, 2, 3))

    def test_by_all_settings_and_by_all_easings(self):
        for bundle, prices in priced():
            wanted = least_by(bundle, prices)
            self.assertEqual(wanted, min(cost_of(prices, row) for row in easings_of(bundle)))
            self.assert_told(wanted, least_cost, bundle, prices)

    def test_fact_that_used_clauses_are_enough(self):
        for bundle, prices in priced(1):
            used = used_numbers(bundle)
            part = (bundle[0], tuple(bundle[1][k] for k in used))
            self.assertEqual(least_cost(part, tuple(prices[k] for k in used)), least_cost(bundle, prices))

    def test_prices_0_and_1000(self):
        for bundle in named_bundles() + lot_bundles()[::3]:
            many = len(bundle[1])
            self.assert_told(0, least_cost, bundle, (0,) * many)
            fewest = min(len(row) for row in unmet_lots(bundle))
            self.assert_told(fewest, least_cost, bundle, (1,) * many)
            self.assert_told(1000 * fewest, least_cost, bundle, (1000,) * many)

    def test_all_clauses_unmet(self):
        # Of sixteen clauses alone, each name with its contrary one, a whole setting misses seven.
        rows = tuple(sorted((sign * k,) for k in range(1, 8) for sign in (1, -1)))
        self.assert_told(7000, least_cost, (7, rows), (1000,) * 14)
        self.assert_told(8000, least_cost, (7, ((), *rows)), (1000,) * 15)
        chance = random.Random(64)
        for _ in range(30):
            prices = tuple(chance.randint(0, 1000) for _ in range(14))
            wanted = sum(min(prices[6 - k], prices[7 + k]) for k in range(7))
            self.assert_told(wanted, least_cost, (7, rows), prices)

    def test_each_code_alone_is_cheapest(self):
        # Each name costs something where it is not as in this setting.
        for setting in whole_settings(7):
            rows = tuple(sorted((k,) for k in setting))
            self.assert_told(0, least_cost, (7, rows), (1,) * 7)
            both = tuple(sorted([*rows, *[(-k,) for k in setting]]))
            prices = tuple(2 if row[0] in setting else 1 for row in both)
            self.assert_told(7, least_cost, (7, both), prices)
            told, _ = cost_paper((7, both), prices)
            self.assertEqual(told, setting)

    def test_wrong_prices(self):
        for bundle in (SQUARE, ODDS, SIGNS, EMPTY, (1, ()), (7, ((),))):
            for thing in wrong_prices(bundle):
                self.assert_keeps_given(BadPrices, least_cost, bundle, thing)
                self.assert_keeps_given(BadPrices, cheapest_easing, bundle, thing)
                self.assert_keeps_given(BadPrices, cost_paper, bundle, thing)
                self.assert_keeps_given(BadPrices, check_cost, bundle, thing, None)
                self.assert_keeps_given(BadPrices, limit_of, bundle, thing, 0)
                self.assert_keeps_given(BadPrices, limit_of, bundle, thing, None)

    def test_bundle_first(self):
        for thing in ((1, 1), None, (1001,), ()):
            self.assert_needs_bundle(least_cost, thing)
            self.assert_needs_bundle(cheapest_easing, thing)
            self.assert_needs_bundle(cost_paper, thing)
            self.assert_needs_bundle(check_cost, thing, None)
            self.assert_needs_bundle(limit_of, thing, 0)
            self.assert_needs_bundle(limit_of, thing, None)


class CheapestEasing(Case):
    def test_ordinary(self):
        self.assert_told((1,), cheapest_easing, SQUARE, (3, 1, 4, 1))
        self.assert_told((2,), cheapest_easing, SQUARE, (3, 1, 0, 1))
        self.assert_told((0, 3), cheapest_easing, ODDS, (4, 12, 7, 6, 9))
        self.assert_told((1,), cheapest_easing, ODDS, (4, 9, 7, 6, 9))
        self.assert_told((), cheapest_easing, MET, (1, 1))
        self.assert_told((0, 1), cheapest_easing, EMPTY, (5, 2, 2))

    def test_the_first_of_alike_ones(self):
        self.assert_told((0,), cheapest_easing, SQUARE, (1, 1, 1, 1))
        self.assert_told((0, 2), cheapest_easing, ODDS, (0, 0, 0, 0, 0))
        self.assert_told((0, 3), cheapest_easing, ODDS, (4, 10, 7, 6, 9))
        self.assert_told((0, 2), cheapest_easing, ODDS, (4, 10, 6, 6, 4))
        self.assert_told((1,), cheapest_easing, ODDS, (5, 10, 6, 6, 4))
        self.assert_told((0,), cheapest_easing, SIGNS, (7,) * 16)

    def test_by_all_easings(self):
        for bundle, prices in priced():
            rows = [(cost_of(prices, row), row) for row in least_of(easings_of(bundle))]
            self.assert_told(min(rows)[1], cheapest_easing, bundle, prices)
            self.assertEqual(min(rows)[0], least_cost(bundle, prices))


class CostPaper(Case):
    def test_each_paper_is_taken(self):
        chance = random.Random(65)
        more = [(bundle, drawn_prices(chance, bundle)) for bundle in named_bundles() + lot_bundles()]
        for bundle, prices in priced(1) + more:
            paper = self.assert_same_again(cost_paper, bundle, prices)
            wanted = least_by(bundle, prices)
            self.assertEqual(cost_verdict(bundle, prices, paper), ("told", wanted), bundle)
            self.assert_told(wanted, check_cost, bundle, prices, paper)

    def test_no_clauses_and_prices_of_0(self):
        for names in range(1, 8):
            setting, tree = cost_paper((names, ()), ())
            self.assertEqual(tree, ("bound", ()))
            self.assertEqual(len(setting), names)
            self.assert_told(0, check_cost, (names, ()), (), (setting, tree))
            self.assert_told(5, check_cost, (names, ((),)), (5,), cost_paper((names, ((),)), (5,)))
        self.assert_told(0, check_cost, SIGNS, (0,) * 16, cost_paper(SIGNS, (0,) * 16))

    def test_within_the_bounds_of_what_is_passed(self):
        for bundle in named_bundles():
            for prices in ((1000,) * len(bundle[1]), tuple(range(len(bundle[1])))):
                self.assertLess(how_many_things(cost_paper(bundle, prices)), 20000)


def how_many_things(thing):
    """How many things a nested tuple has in all."""
    if not isinstance(thing, tuple):
        return 1
    return 1 + sum(how_many_things(item) for item in thing)


PRICES = (3, 1, 4, 1)
TREE = ("turn", 1, ("turn", 2, ("bound", (0,)), ("bound", (1,))), ("turn", 2, ("bound", (2,)), ("bound", (3,))))


class CheckCost(Case):
    def refused(self, part, paper, bundle=SQUARE, prices=PRICES):
        """The paper is refused for this part."""
        self.assertEqual(cost_verdict(bundle, prices, paper), ("part", part))
        self.assert_refused(BadPaper, "part", part, check_cost, bundle, prices, paper)

    def test_ordinary(self):
        self.assert_told(1, check_cost, SQUARE, PRICES, ((1, -2), TREE))
        self.assert_told(1, check_cost, SQUARE, PRICES, ((-1, -2), TREE))
        self.refused("tree", ((1, 2), TREE))
        self.refused("tree", ((-1, 2), TREE))
        self.assert_told(3, check_cost, SQUARE, (3, 3, 4, 3), ((1, 2), TREE))
        self.refused("tree", ((-1, 2), TREE), SQUARE, (3, 3, 4, 3))
        other = ("turn", 2, TREE[2][:1] + (1,) + TREE[2][2:], ("turn", 1, ("bound", (1,)), ("bound", (3,))))
        self.refused("tree", ((1, -2), other))
        fit = ("turn", 2, ("turn", 1, ("bound", (0,)), ("bound", (2,))), ("turn", 1, ("bound", (1,)), ("bound", (3,))))
        self.assert_told(1, check_cost, SQUARE, PRICES, ((1, -2), fit))

    def test_the_first_tree_is_that_where_the_name_is_true(self):
        self.refused("tree", ((1, -2), ("turn", 1, TREE[3], TREE[2])))
        units = (1, ((-1,), (1,)))
        for prices in ((2, 2), (5, 2), (2, 5)):
            setting = (1,) if prices[0] == 2 else (-1,)
            self.assert_told(2, check_cost, units, prices, (setting, ("turn", 1, ("bound", (0,)), ("bound", (1,)))))
            self.refused("tree", (setting, ("turn", 1, ("bound", (1,)), ("bound", (0,)))), units, prices)

    def test_bounds_of_more_and_of_less(self):
        tree = ("turn", 1, ("bound", (0, 1)), ("bound", (2, 3)))
        rows = (1, ((-1,), (1,)))
        self.refused("tree", ((1, -2), tree))
        self.assert_told(4, check_cost, rows, (4, 9), ((1,), ("turn", 1, ("bound", (0,)), ("bound", (1,)))))
        self.refused("tree", ((-1,), ("turn", 1, ("bound", (0,)), ("bound", (1,)))), rows, (4, 9))
        self.refused("tree", ((1,), ("turn", 1, ("bound", ()), ("bound", (1,)))), rows, (4, 9))
        self.assert_told(0, check_cost, rows, (0, 9), ((1,), ("turn", 1, ("bound", ()), ("bound", ()))))
        self.assert_told(0, check_cost, rows, (0, 9), ((1,), ("bound", ())))
        self.refused("tree", ((1,), ("bound", ())), rows, (4, 9))
        self.assert_told(5, check_cost, (1, ((), (1,))), (5, 3), ((1,), ("bound", (0,))))
        self.refused("tree", ((-1,), ("bound", (0,))), (1, ((), (1,))), (5, 3))
        self.refused("tree", ((1,), ("bound", (0, 1))), (1, ((), (1,))), (5, 3))

    def test_turns_more_than_needed_and_twice_on_a_name(self):
        three = (3, ((),))
        deep = ("bound", (0,))
        for name in (1, 2, 3):
            deep = ("turn", name, deep, deep)
            self.assert_told(8, check_cost, three, (8,), ((1, 2, 3), deep))
        self.refused("tree", ((1, 2, 3), ("turn", 1, deep, deep)), three, (8,))
        self.refused("tree", ((1, 2, 3), ("turn", 4, deep[2], deep[2])), three, (8,))
        self.refused("tree", ((1, 2, 3), ("turn", -1, ("bound", (0,)), ("bound", (0,)))), three, (8,))
        self.refused("tree", ((1, 2, 3), ("turn", True, ("bound", (0,)), ("bound", (0,)))), three, (8,))
        very = ("bound", (0,))
        for _ in range(25):
            very = ("turn", 1, very, ("bound", (0,)))
        self.refused("tree", ((1, 2, 3), very), three, (8,))

    def test_form_then_setting_then_tree(self):
        for thing in ODD + [(), ((1, 2),), ((1, 2), TREE, ()), [(1, 2), TREE], TREE]:
            if not (isinstance(thing, tuple) and len(thing) == 2):
                self.refused("form", thing)
        for thing in ODD + [(), (1,), (2,), (1, 2, 3), (2, 1), (1, -1), [1, 2], (1, True)]:
            if thing != (1, 2):
                self.refused("setting", (thing, TREE))
                self.refused("setting", (thing, None))
        for thing in ODD + [(), ("bound",), ("bound", (0,), ()), ("turn", 1, TREE[2]), ("TURN", *TREE[1:]),
                            ("bound", [0]), ("bound", (1, 0)), ("bound", (4,)), ("turn", 1), [*TREE]]:
            self.refused("tree", ((1, -2), thing))
            self.refused("tree", ((1, -2), ("turn", 1, thing, TREE[3])))
            self.refused("tree", ((1, -2), ("turn", 1, TREE[2], thing)))

    def test_something_otherwise_at_any_place(self):
        papers = [(SQUARE, PRICES, ((1, -2), TREE))]
        for bundle, prices in priced(1)[::12]:
            paper = cost_paper(bundle, prices)
            if how_many_things(paper) < 40:
                papers.append((bundle, prices, paper))
        self.assertGreater(len(papers), 8)
        for bundle, prices, paper in papers:
            for thing in itertools.chain(changed(paper), reworded(paper)):
                verdict = cost_verdict(bundle, prices, thing)
                self.assert_verdict(verdict, check_cost, bundle, prices, thing)

    def test_papers_of_other_bundles(self):
        some = priced(1)[::14]
        papers = [cost_paper(bundle, prices) for bundle, prices in some]
        for bundle, prices in some:
            for paper in papers:
                self.assert_verdict(cost_verdict(bundle, prices, paper), check_cost, bundle, prices, paper)


def reworded(thing):
    """A paper with one word of its TREE otherwise."""
    if isinstance(thing, str):
        yield from ("turn", "bound", "Turn", "bound ", "turned")
    if isinstance(thing, tuple):
        for at, item in enumerate(thing):
            for other in reworded(item):
                yield thing[:at] + (other,) + thing[at + 1:]


class LimitOf(Case):
    def test_ordinary(self):
        self.assert_told(1, limit_of, SQUARE, (3, 1, 4, 1), 0)
        self.assert_told(1, limit_of, SQUARE, (3, 1, 4, 1), 1)
        self.assert_told(3, limit_of, SQUARE, (3, 1, 4, 5), 1)
        for number, limit in enumerate((6, 10, 6, 7, 4)):
            self.assert_told(limit, limit_of, ODDS, (4, 12, 7, 6, 9), number)
        self.assert_told(0, limit_of, MET, (5, 5), 0)

    def test_of_the_empty_clause(self):
        for bundle in (EMPTY, (1, ((),)), (7, ((), (1, 2)))):
            for price in (0, 1, 1000):
                self.assert_told(None, limit_of, bundle, (price,) * len(bundle[1]), 0)
        self.assert_told(3, limit_of, EMPTY, (5, 2, 3), 1)
        self.assert_told(2, limit_of, EMPTY, (5, 2, 3), 2)

    def test_by_all_easings(self):
        for bundle, prices in priced(1):
            for number in range(len(bundle[1])):
                self.assert_told(limit_by(bundle, prices, number), limit_of, bundle, prices, number)

    def test_with_that_price_one_more_and_one_less(self):
        for bundle, prices in priced(1, 66)[::2]:
            found = easings_of(bundle)
            for number in range(len(bundle[1])):
                limit = limit_of(bundle, prices, number)
                for price in {0, 1000} if limit is None else {limit - 1, limit, limit + 1} - {-1}:
                    if price <= 1000:
                        other = prices[:number] + (price,) + prices[number + 1:]
                        self.assertEqual(limit_of(bundle, other, number), limit)
                        least = least_cost(bundle, other)
                        cheapest = [row for row in found if cost_of(other, row) == least]
                        some = any(number in row for row in cheapest)
                        each = all(number in row for row in cheapest)
                        self.assertIs(some, limit is None or price <= limit)
                        self.assertIs(each, limit is None or price < limit)

    def test_great_limits(self):
        # What else there is costs 15,000 together.
        rows = [tuple(sorted([k * s, j * t], key=abs)) for k, j in ((2, 3), (4, 5), (6, 7))
                for s in (1, -1) for t in (1, -1)]
        bundle = (7, tuple(sorted(rows + [(1,), (-1,), (-1, 2)])))
        prices = (1000,) * len(bundle[1])
        for number in range(len(bundle[1])):
            free = prices[:number] + (0,) + prices[number + 1:]
            without = min(cost_of(prices, row) for row in unmet_lots(bundle) if number not in row)
            having = min(cost_of(free, row) for row in unmet_lots(bundle))
            self.assert_told(without - having, limit_of, bundle, prices, number)

    def test_wrong_numbers(self):
        for thing in ODD + [5, 6, -1, -5, (), (2,)]:
            self.assert_refused(BadNumber, "given", thing, limit_of, ODDS, (1,) * 5, thing)
        for thing in (0, -1, 1, None, True):
            self.assert_refused(BadNumber, "given", thing, limit_of, (3, ()), (), thing)
        self.assert_refused(BadNumber, "given", 16, limit_of, SIGNS, (1,) * 16, 16)
        self.assert_told(1, limit_of, SIGNS, (1,) * 16, 15)


class Helpers(Case):
    def test_there_are_all_sorts(self):
        found = [least_by(bundle, prices) for bundle, prices in priced()]
        self.assertGreater(sum(cost == 0 for cost in found), 30)
        self.assertGreater(sum(cost > 0 for cost in found), 60)
        self.assertEqual(unmet_by(SQUARE, (1, 2)), (0,))
        self.assertEqual(uses_of((("clause", 3),)), {3})


if __name__ == "__main__":
    unittest.main()
