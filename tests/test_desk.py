"""The class of idleclauses.desk: what lines ask of a bench, and their answers."""

import random
import unittest

from idleclauses.bench import Bench
from idleclauses.desk import Desk
from idleclauses.errors import BadTerm, BadText
from tests.helper import all_rows, does_meet, does_touch, whole_settings
from tests.opinions import is_row, used_numbers
from tests.opinions_terms import are_met, good_terms, term_verdict, unmet_lots
from tests.opinions_texts import changed_texts, read_verdict, text_of_term
from tests.test_texts import NO_STRINGS, TextCase, leaves

AB = "both clause 2 1 1 clause 2 2 -1 2"
SIXTEEN = "both one 5 5 1 2 3 4 5 both one 3 3 -1 -2 -3 clause 1 0"


def text_of(row, empty):
    """LITERALS in an answer."""
    return " ".join(map(str, row)) if row else empty


class DeskCase(TextCase):
    def asked(self, desk, *pairs):
        """Lines that are said in turn, each with its answer."""
        for line, answer in pairs:
            found = desk.say(line)
            self.assertIs(type(found), str)
            self.assertEqual(found, answer, line)

    def not_followed(self, desk, *lines):
        """Lines that are answered with "no", and change nothing."""
        for line in lines:
            ahead = desk.bench.copy()
            for _ in range(2):
                self.assertEqual(desk.say(line), "no", repr(line)[:100])
            self.assertTrue(desk.bench == ahead)


class Began(DeskCase):
    def test_each_term(self):
        for term, bundle in good_terms(200):
            desk = Desk(text_of_term(term))
            self.assertIs(type(desk.bench), Bench)
            self.assertEqual(desk.bench.bundle, bundle)
            self.assertTrue(desk.bench == Bench(bundle))
            self.assertIs(desk.bench, desk.bench)

    def test_no_texts(self):
        for thing in NO_STRINGS:
            self.assert_bad_text(None, None, Desk, thing)
        for text in ("", "x", "clause", "clause 1 0\n", "clause 1 0 ", "clause 1 0\nodds", "names 3", leaves(11)):
            self.assert_bad_text(*read_verdict(text)[1], Desk, text)

    def test_no_terms(self):
        for text in ("clause 8 0", "both clause 1 0 clause 1 1 2", "turned 1 2 clause 1 0", "turned 0 " * 8 + AB):
            self.assert_refused(BadTerm, "path", read_verdict(text)[1], Desk, text)

    def test_changed_at_any_place(self):
        for text in changed_texts("both turned 1 1 one 2 2 1 -2 merged 1 2 same 3 1 -2"):
            verdict, told = read_verdict(text)
            if verdict == "told":
                self.assertEqual(Desk(text).bench.bundle, term_verdict(told)[1])
            elif verdict == "text":
                with self.assertRaises(BadText) as caught:
                    Desk(text)
                self.assertEqual((caught.exception.line, caught.exception.word), told)
            else:
                with self.assertRaises(BadTerm) as caught:
                    Desk(text)
                self.assertEqual(caught.exception.path, told)

    def test_bench_is_only_read(self):
        desk = Desk(AB)
        with self.assertRaises(AttributeError):
            desk.bench = Bench((1, ()))


class EachLine(DeskCase):
    def test_ordinary(self):
        self.asked(Desk(AB), ("odds", "no"), ("used", "none"), ("ease", "0"), ("deeds", "0"), ("undo", "nothing"),
                   ("put -2", "3"), ("odds", "yes"), ("used", "-2, -1 2, 1"), ("ease", "1"), ("deeds", "1"),
                   ("put -2", "0"), ("deeds", "2"), ("put", "1"), ("used", "empty, -2, -1 2, 1"), ("ease", "2"),
                   ("strike -2", "2"), ("odds", "yes"), ("used", "empty"), ("deeds", "4"), ("undo", "done"),
                   ("used", "empty, -2, -1 2, 1"), ("strike", "0"), ("strike 1", "2"), ("settle", "-1 -2"),
                   ("deeds", "6"), ("used", "none"), ("settle", "none"), ("undo", "done"), ("undo", "done"),
                   ("undo", "done"), ("undo", "done"), ("deeds", "3"))

    def test_settle_with_something_and_with_nothing_to_take_away(self):
        self.asked(Desk("clause 3 1 -3"), ("settle", "-3"), ("settle", "none"), ("deeds", "2"))
        self.asked(Desk("clause 1 0"), ("settle", "none"), ("used", "empty"), ("deeds", "1"), ("undo", "done"))
        self.asked(Desk("both clause 1 1 1 clause 1 1 -1"), ("settle", "none"), ("used", "-1, 1"))

    def test_undo_with_nothing_to_take_back(self):
        desk = Desk(AB)
        self.asked(desk, ("undo", "nothing"), ("undo", "nothing"), ("put", "1"), ("undo", "done"), ("undo", "nothing"))
        self.assertEqual(desk.bench.bundle, (2, ((-1, 2), (1,))))

    def test_put_alone_and_strike_alone(self):
        desk = Desk(AB)
        self.not_followed(desk, "strike")
        self.asked(desk, ("put", "1"), ("put", "0"), ("strike", "0"))
        self.not_followed(desk, "strike")
        self.asked(desk, ("deeds", "3"))

    def test_16_clauses_and_one_more(self):
        desk = Desk(SIXTEEN)
        self.assertEqual(len(desk.bench.bundle[1]), 16)
        self.not_followed(desk, "put 1", "put 1 -2", "put -5")
        self.asked(desk, ("put 1 2 3 4 5", "0"), ("deeds", "1"), ("strike -1 -2 -3", "0"), ("put 1", "1"))
        self.not_followed(desk, "put 2", "put -1 -2 -3")
        self.asked(desk, ("deeds", "3"), ("undo", "done"), ("put -1 -2 -3", "1"), ("deeds", "3"))

    def test_refused_by_an_error(self):
        self.not_followed(Desk(AB), "put 3", "put 0", "put 2 1", "put 1 1", "put 1 -1", "put 1 2 3 4 5 6 7 8",
                          "strike 2", "strike -1", "strike 3", "strike 2 -1", "strike 0", "put -3",
                          "put " + "9" * 31, "strike -" + "9" * 31)

    def test_none_of_these(self):
        self.not_followed(
            Desk(AB), "", " ", "x", "Put 1", "PUT", "put ", "put  1", " put", "put 1 ", "put x", "put 1x", "put 1,2",
            "put none", "put empty", "strike ", "strike  1", "strike 1 ", "strike x", "settle ", "settle 1",
            "settle none", "odds ", "odds 1", " odds", "odds odds", "used ", "used 1", "used none", "ease 1", "ease ",
            "undo 1", "undo ", "undo 2", "undo undo", "deeds ", "deeds 0", "clauses 2", "tidy", "meets 1", "follows 1",
            "clause 1 0", "names 2", "put\n", "odds\n", "\nodds", "put 1\n", "put\n1", "odds\nodds", "bench", "say",
            "put -0", "put 01", "put -01", "put +1", "put 1.0", "put 1_0", "put " + "1" * 32, "put -", "put --1",
            "putt", "pu", "settled", "no", "yes", "done", "put 1 2 ", "strike -1  2", "strike -0", "\t", "put\t1")
        self.not_followed(Desk(AB), *NO_STRINGS)

    def test_a_line_with_no_beside_the_answer_no(self):
        desk = Desk("clause 2 1 1")
        self.asked(desk, ("odds", "no"), ("odds 1", "no"), ("put -1", "2"), ("odds", "yes"), ("odds 1", "no"))


class Beside(DeskCase):
    def test_the_bench_is_read_and_changed_beside(self):
        desk = Desk(AB)
        self.assertEqual(desk.bench.put((-2,)), ((-2,), (-1, 2), (1,)))
        self.asked(desk, ("odds", "yes"), ("deeds", "1"), ("strike 1", "2"), ("used", "none"))
        self.assertEqual(desk.bench.bundle, (2, ((-2,), (-1, 2))))
        self.assertEqual(len(desk.bench), 2)
        desk.bench.undo(2)
        self.asked(desk, ("deeds", "0"), ("undo", "nothing"))
        with desk.bench.trial() as held:
            self.asked(desk, ("put", "1"), ("used", "empty"))
            self.assertEqual(held.kernel_now(), (0,))
        self.asked(desk, ("used", "none"), ("deeds", "0"))
        other = desk.bench.copy()
        self.asked(desk, ("put", "1"))
        self.assertEqual(len(other), 0)

    def test_two_desks(self):
        one, other = Desk(AB), Desk(AB)
        self.asked(one, ("put", "1"))
        self.asked(other, ("deeds", "0"), ("used", "none"))
        self.assertFalse(one.bench == other.bench)


class Rows(DeskCase):
    def answer(self, bench, line):
        """What has to be answered, by the BUNDLE that is on the Bench ahead; None of a settle."""
        names, clauses = bench.bundle
        used = [clauses[k] for k in used_numbers(bench.bundle)]
        word, *literals = line.split(" ")
        row = tuple(int(k) for k in literals)
        if word == "put":
            if not is_row(names, row) or row not in clauses and len(clauses) == 16:
                return "no"
            further = (names, tuple(sorted({*clauses, row})))
            return str(len([1 for k in used_numbers(further) if further[1][k] not in used]))
        if word == "strike":
            if row not in clauses:
                return "no"
            left = (names, tuple(clause for clause in clauses if clause != row))
            return str(len([1 for clause in used if clause != row
                            and clause not in [left[1][k] for k in used_numbers(left)]]))
        if word == "odds":
            return "no" if any(are_met(setting, clauses) for setting in whole_settings(names)) else "yes"
        return {
            "used": ", ".join(text_of(clause, "empty") for clause in used) or "none",
            "ease": str(min(len(unmet) for unmet in unmet_lots(bench.bundle))),
            "undo": "done" if len(bench) else "nothing", "deeds": str(len(bench)),
        }.get(word)

    def line(self, chance, names, clauses):
        """A line of some sort."""
        word = chance.choice(("put", "put", "put", "strike", "settle", "odds", "used", "ease", "undo", "deeds"))
        if word not in ("put", "strike"):
            return word
        row = chance.choice([row for row in all_rows(min(7, names + 1)) if len(row) < 4])
        if clauses and chance.random() < (0.7 if word == "strike" else 0.2):
            row = chance.choice(clauses)
        if len(row) > 1 and chance.random() < 0.05:
            row = row[::-1]
        return " ".join([word, *map(str, row)])

    def test_rows_of_lines(self):
        chance = random.Random(72)
        told = {}
        for term, bundle in good_terms(140):
            if bundle[0] < 5:
                desk, deeds = Desk(text_of_term(term)), []
                for _ in range(20):
                    line = self.line(chance, *desk.bench.bundle)
                    ahead, wanted = desk.bench.bundle, self.answer(desk.bench, line)
                    found = desk.say(line)
                    if line == "settle":
                        self.check_settle(ahead, desk.bench.bundle, found)
                    else:
                        self.assertEqual(found, wanted, (ahead, line))
                    if line.split(" ")[0] in ("put", "strike", "settle") and found != "no":
                        deeds.append(ahead)
                    elif line == "undo" and deeds:
                        self.assertEqual(desk.bench.bundle, deeds.pop())
                    else:
                        self.assertEqual(desk.bench.bundle, ahead)
                    self.assertEqual(len(desk.bench), len(deeds))
                    key = line.split(" ")[0], found == "no"
                    told[key] = told.get(key, 0) + 1
        for key in (("put", True), ("put", False), ("strike", True), ("strike", False), ("odds", True), ("odds", False)):
            self.assertGreater(told[key], 10, key)

    def check_settle(self, ahead, now, answer):
        """An answer to "settle": LITERALS that are true, which meet just what was taken away."""
        setting = () if answer == "none" else tuple(int(word) for word in answer.split(" "))
        self.assertEqual(text_of(setting, "none"), answer)
        self.assertTrue(is_row(ahead[0], setting))
        used = [ahead[1][k] for k in used_numbers(ahead)]
        self.assertEqual(now, (ahead[0], tuple(used)))
        for clause in ahead[1]:
            self.assertEqual(does_meet(setting, clause), clause not in used)
            self.assertEqual(does_touch(setting, clause), clause not in used)


if __name__ == "__main__":
    unittest.main()
