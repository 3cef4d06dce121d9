"""The functions of idleclauses.counts: points [24] and [25]."""

import itertools
import random
import unittest

from idleclauses.counts import are_clashing, check_count, count, count_paper
from idleclauses.errors import BadPaper
from idleclauses.settings import is_at_odds
from tests.helper import (
    Case, all_rows, named_bundles, odd_integers, odd_things, odd_tuples, whole_settings,
)
from tests.opinions import changed
from tests.opinions_lots import (
    are_clashed, bundles, clashes, count_of, count_verdict, fewer_bundles,
)

SQUARE = (2, ((-1, -2), (-1, 2), (1, -2), (1, 2)))
TWO = (3, ((-1, 2), (1, 3)))
TWO_PAPER = (((1, 2), (-1, 3)), ((1, -2), (-1, -3)))
SIGNS = named_bundles()[8]
ODD = odd_things() + odd_tuples() + odd_integers() + [0, 1]


def split_papers(chance, bundle):
    """A PAPER on the COUNT by names in any order, with more SETTINGS than it has to have."""
    names, clauses = bundle
    goods, bads, left = [], [], [()]
    while left:
        setting = left.pop()
        free = [k for k in range(1, names + 1) if k not in setting and -k not in setting]
        good = all(set(setting) & set(row) for row in clauses)
        bad = any(all(-k in setting for k in row) for row in clauses)
        if (good or bad) and (not free or chance.random() < 0.8):
            (goods if good else bads).append(tuple(sorted(setting, key=abs)))
        else:
            name = chance.choice(free)
            left += [(*setting, name), (*setting, -name)]
    return tuple(goods), tuple(bads)


class AreClashing(Case):
    def test_ordinary(self):
        self.assert_told(True, are_clashing, SQUARE)
        self.assert_told(True, are_clashing, SIGNS)
        self.assert_told(True, are_clashing, TWO)
        self.assert_told(False, are_clashing, (3, ((-1, 2), (1, 3), (3,))))
        self.assert_told(False, are_clashing, (2, ((1,), (2,))))
        self.assert_told(False, are_clashing, (2, ((-1, 2), (2,))))

    def test_fewer_than_two_and_the_empty_clause(self):
        for names in range(1, 8):
            self.assert_told(True, are_clashing, (names, ()))
            self.assert_told(True, are_clashing, (names, ((),)))
            self.assert_told(True, are_clashing, (names, ((names,),)))
            self.assert_told(False, are_clashing, (names, ((), (names,))))

    def test_each_two(self):
        found = []
        for bundle in bundles():
            found.append(are_clashed(bundle[1]))
            self.assert_told(found[-1], are_clashing, bundle)
        self.assertGreater(found.count(True), 30)
        self.assertGreater(found.count(False), 50)

    def test_two_clauses(self):
        for names in (2, 3):
            for one, other in itertools.combinations(sorted(all_rows(names)), 2):
                self.assertIs(are_clashing((names, (one, other))), clashes(one, other))

    def test_bundle_needed(self):
        self.assert_needs_bundle(are_clashing)


class Count(Case):
    def test_ordinary(self):
        self.assert_told(0, count, SQUARE)
        self.assert_told(0, count, SIGNS)
        self.assert_told(4, count, TWO)
        self.assert_told(1, count, (2, ((-1,), (2,))))
        self.assert_told(7, count, (3, ((1, 2, 3),)))

    def test_by_all_settings(self):
        for bundle in bundles():
            self.assert_told(count_of(bundle), count, bundle)
            self.assertEqual(count(bundle) == 0, is_at_odds(bundle))

    def test_all_or_none(self):
        for names in range(1, 8):
            self.assert_told(1 << names, count, (names, ()))
            self.assert_told(0, count, (names, ((),)))
            self.assert_told(1 << names - 1, count, (names, ((names,),)))
            self.assert_told((1 << names) - 1, count, (names, (tuple(range(1, names + 1)),)))
        self.assert_told(128, count, (7, ()))

    def test_of_clashing_clauses_by_their_lengths(self):
        for bundle in bundles():
            if are_clashed(bundle[1]):
                missed = sum(1 << bundle[0] - len(row) for row in bundle[1])
                self.assertEqual(count(bundle), (1 << bundle[0]) - missed)

    def test_bundle_needed(self):
        self.assert_needs_bundle(count)
        self.assert_needs_bundle(count_paper)
        for thing in (TWO_PAPER, None, ()):
            self.assert_needs_bundle(check_count, thing)


class CountPaper(Case):
    def test_each_paper_is_taken(self):
        for bundle in bundles():
            paper = self.assert_same_again(count_paper, bundle)
            self.assertEqual(count_verdict(bundle, paper), ("told", count_of(bundle)), bundle)
            self.assert_told(count_of(bundle), check_count, bundle, paper)

    def test_one_setting_is_enough(self):
        for names in range(1, 8):
            self.assert_told((((),), ()), count_paper, (names, ()))
            self.assert_told(((), ((),)), count_paper, (names, ((),)))

    def test_very_many_settings(self):
        # Each whole SETTING of an even number of true names is met alone.
        signs = itertools.product(*[(k, -k) for k in (3, 4, 5, 6, 7)])
        rows = [row for row in signs if sum(k < 0 for k in row) % 2]
        bundle = (7, tuple(sorted(rows)))
        self.assertEqual(len(rows), 16)
        goods, bads = count_paper(bundle)
        self.assertLessEqual(len(goods) + len(bads), 128)
        self.assert_told(64, check_count, bundle, (goods, bads))


class CheckCount(Case):
    def test_ordinary(self):
        self.assert_told(4, check_count, TWO, TWO_PAPER)
        goods, bads = TWO_PAPER
        for paper, part in (
                ((goods, bads[:1]), "sum"), ((goods[:1], bads), "sum"), ((goods, ()), "sum"),
                ((goods, bads + ((2, 3),)), "clash"), ((goods, bads + bads[:1]), "clash"),
                ((goods + bads, ()), "goods"), (((), goods + bads), "bads"), ((bads, goods), "goods"),
                (((1, 2), (-1, 3)), "settings"), (((), ()), "settings"), ((goods, ((0,),)), "settings")):
            self.assert_refused(BadPaper, "part", part, check_count, TWO, paper)

    def test_goods_or_bads_of_none(self):
        for names in range(1, 8):
            whole = whole_settings(names)
            for rows in (((),), ((1,), (-1,)), tuple(whole)):
                self.assert_told(1 << names, check_count, (names, ()), (rows, ()))
                self.assert_refused(BadPaper, "part", "bads", check_count, (names, ()), ((), rows))
                self.assert_told(0, check_count, (names, ((),)), ((), rows))
                self.assert_refused(BadPaper, "part", "goods", check_count, (names, ((),)), (rows, ()))

    def test_128_settings_but_not_129(self):
        whole = tuple(whole_settings(7))
        self.assertEqual(len(whole), 128)
        self.assert_told(128, check_count, (7, ()), (whole, ()))
        self.assert_told(0, check_count, (7, ((),)), ((), whole))
        self.assert_refused(BadPaper, "part", "settings", check_count, (7, ()), (whole + whole[:1], ()))
        self.assert_refused(BadPaper, "part", "settings", check_count, (7, ()), (whole, whole[:1]))
        self.assert_refused(BadPaper, "part", "settings", check_count, (7, ()), (whole * 2, ()))
        self.assert_refused(BadPaper, "part", "settings", check_count, (7, ()), (((),) * 129, ()))
        self.assert_refused(BadPaper, "part", "settings", check_count, (7, ()), ((), ((),) * 20000))
        self.assert_refused(BadPaper, "part", "clash", check_count, (7, ()), (((),) * 128, ()))
        self.assert_refused(BadPaper, "part", "clash", check_count, (7, ()), (whole[:-1] + whole[:1], ()))
        self.assert_refused(BadPaper, "part", "sum", check_count, (7, ()), (whole[:-1], ()))
        half = whole[:64], whole[64:]
        bundle = (7, ((whole[0][0],),))
        self.assert_told(64, check_count, bundle, half)

    def test_form_then_settings_then_clash_then_goods_then_bads_then_sum(self):
        goods, bads = TWO_PAPER
        pairs = [(goods, list(bads)), (list(goods), bads), (goods, None), (None, bads), (goods, 1)]
        triples = [(goods,), (goods, bads, ()), [goods, bads], (), {0: goods, 1: bads}]
        for thing in ODD + pairs + triples:
            if count_verdict(TWO, thing) == ("part", "form"):
                self.assert_refused(BadPaper, "part", "form", check_count, TWO, thing)
        for thing in pairs + triples:
            self.assert_refused(BadPaper, "part", "form", check_count, TWO, thing)
        for thing in ODD + [(4,), (-4,), (2, 1), [1]]:
            for paper in (((thing,), bads), (goods, (thing,)), (goods, (*bads, thing)), ((thing,), ()),
                          ((thing, *goods), bads), ((*bads, thing), goods)):
                self.assert_refused(BadPaper, "part", "settings", check_count, TWO, paper)
        both = (1, -2), (1, 2)
        self.assert_refused(BadPaper, "part", "clash", check_count, TWO, ((*both, (3,)), ()))
        self.assert_refused(BadPaper, "part", "goods", check_count, TWO, (both, ((-1, 2),)))
        self.assert_refused(BadPaper, "part", "bads", check_count, TWO, ((), ((-1, 2),)))
        self.assert_refused(BadPaper, "part", "sum", check_count, TWO, ((), ((-1, -3),)))

    def test_something_otherwise_at_any_place(self):
        papers = [(TWO, TWO_PAPER), ((1, ()), (((),), ())), ((7, ((),)), ((), ((),)))]
        papers += [(b, count_paper(b)) for b in fewer_bundles() if b[0] < 4][-12:]
        for bundle, paper in papers:
            for thing in changed(paper):
                self.assert_verdict(count_verdict(bundle, thing), check_count, bundle, thing)

    def test_papers_by_any_order_of_names(self):
        chance = random.Random(51)
        for bundle in bundles()[::2]:
            for _ in range(2):
                paper = split_papers(chance, bundle)
                self.assertEqual(count_verdict(bundle, paper), ("told", count_of(bundle)))
                self.assert_told(count_of(bundle), check_count, bundle, paper)

    def test_papers_of_other_bundles(self):
        some = fewer_bundles()[::2]
        papers = [count_paper(bundle) for bundle in some]
        for bundle in some:
            for paper in papers:
                self.assert_verdict(count_verdict(bundle, paper), check_count, bundle, paper)


if __name__ == "__main__":
    unittest.main()
