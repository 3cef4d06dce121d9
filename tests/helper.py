"""What several tests use: odd things to pass, errors caught, BUNDLES, and a second opinion."""

import itertools
import random
import sys
import unittest

from idleclauses.errors import BadBundle, BadPaper, ClauseError


class Plain:
    """An object that is equal to itself alone."""


PLAIN = Plain()


class Agreeing:
    """An object that is equal to everything, and so to each word and each number."""

    def __eq__(self, other):
        return True

    def __hash__(self):
        return 1


AGREEING = Agreeing()


def odd_things():
    """Things of many kinds, none of them a tuple or an integer; made anew each time."""
    return [
        None, True, False, "", "1", "names", "clause\n", b"", b"\x01", [], [1], [1, 2], [[1]],
        [3, [[1]]], [3, ()], {}, {1: 2}, {"names": 3}, set(), {1}, frozenset([1]), range(3), 1j,
        ..., NotImplemented, PLAIN, AGREEING, Plain, int, len, lambda: 1, ValueError("x"), iter([1]),
    ]


def odd_tuples():
    """Tuples that are no CLAUSES, SETTINGS or LOTS of any NAMES, and no pair with NAMES ahead."""
    deep = (1,)
    for _ in range(50):
        deep = (deep,)
    return [
        (0,), (True,), (False,), (None,), ("1",), (b"1",), ("",), ([],), ([1],), ({},), ((),),
        ((1,),), ((1, 2),), (1, None), (1, True), (1, "2"), (1, 1), (-1, -1), (1, -1), (-1, 1),
        (2, 1), (-2, 1), (2, -1), (1, 3, 2), (1, 2, 2), (1, 2, -2), (0, 1), (1, 0), (8,), (-8,),
        (10 ** 59,), (-10 ** 59,), (1, 10 ** 59), tuple(range(1, 9)), (1,) * 20000, deep, (PLAIN,),
        (Plain,), (int,), (1, [2]), ("clause", 1, (1,)), ((1,), (2,)), ((), (1,)),
    ]


def odd_integers():
    """Integers that are no NAMES, no LITERAL, and no number of a CLAUSE."""
    return [-8, -9, -10 ** 59, 16, 17, 10 ** 59, 128]


def all_rows(names):
    """All tuples of LITERALS whose NAMES ascend, which are all CLAUSES and all SETTINGS."""
    signs = itertools.product((0, 1, -1), repeat=names)
    return [tuple(k * sign for k, sign in enumerate(row, 1) if sign) for row in signs]


def all_lots(names):
    """All LOTS of so many names."""
    return [row for row in all_rows(names) if all(name > 0 for name in row)]


def whole_settings(names):
    """All whole SETTINGS of so many names."""
    return [row for row in all_rows(names) if len(row) == names]


def small_bundles():
    """All BUNDLES of one name and of two names."""
    found = []
    for names in (1, 2):
        clauses = sorted(all_rows(names))
        for many in range(len(clauses) + 1):
            found += [(names, row) for row in itertools.combinations(clauses, many)]
    return found


def some_bundles(many):
    """BUNDLES of 3 to 7 names with 0 to 16 CLAUSES, the same ones each time."""
    chance = random.Random(2026)
    rows = {names: all_rows(names) for names in range(3, 8)}
    short = {names: [row for row in rows[names] if len(row) < 4] for names in rows}
    found = []
    for k in range(many):
        names = 3 + k % 5
        clauses = chance.sample((rows, short)[k % 2][names], chance.randint(0, 16))
        found.append((names, tuple(sorted(clauses))))
    return found


def layered_bundles(many):
    """BUNDLES at odds name by name, so that later names stand beside earlier ones; and more."""
    chance = random.Random(7)
    found = []
    for k in range(many):
        names = 3 + k % 5
        order = chance.sample(range(1, names + 1), names)
        clauses = set(chance.sample(all_rows(names), k % 3))
        for at in range(chance.randint(1, names)):
            for sign in (1, -1):
                ahead = chance.sample(order[:at], chance.randint(0, at))
                row = [sign * order[at]] + [name * chance.choice((1, -1)) for name in ahead]
                clauses.add(tuple(sorted(row, key=abs)))
        found.append((names, tuple(sorted(clauses))))
    return found


def named_bundles():
    """BUNDLES for the edges: 1 and 7 names, no CLAUSES, 16 ones, (), several layers."""
    signs = itertools.product((1, -1), (2, -2), (3, -3), (4, -4))
    row = [(1,), (-1,)] + [(s * k, s * (k + 1)) for k in range(1, 7) for s in (1, -1)]
    stairs = [(*range(1, k), -k) for k in range(1, 8)] + [tuple(range(1, 8))]
    return [
        (1, ()), (7, ()), (1, ((),)), (7, ((),)), (1, ((-1,), (1,))), (1, ((), (-1,), (1,))),
        (7, ((), (1, 2, 3, 4, 5, 6, 7))), (7, ((-7,), (7,))), (7, tuple(sorted(signs))),
        (7, tuple(sorted(row))), (7, tuple(sorted(row + [(), (-1, 2)]))),
        (2, ((-1, -2), (-1, 2), (1, -2), (1, 2))), (3, ((-2, 3), (-1, 2), (1, -2), (1, 2))),
        (4, ((-1,), (-1, -3), (1,), (1, 2), (3, 4))), (5, ((-4, 5), (-2,), (1, 3), (2,), (4, -5))),
        (3, ((-3,), (-2, 3), (-1, 2), (1, 2), (1, 3))), (3, ((-1, -2), (-1, 2), (1, -2), (3,))),
        (7, tuple(sorted(stairs))), (7, tuple(sorted([tuple(-k for k in row) for row in stairs]))),
        # Where some names are set, what is at odds then can do without the next name.
        (6, ((-3, -4), (-2, -5, 6), (-2, -3, -6), (-2, 3, 5), (-1, -4, -6), (-1, -4, 6), (-1, 2, -4),
             (-1, 2, -3), (-1, 3, 6), (-1, 4, -6), (1, -2, -5), (1, -2, -3), (1, 2, -5), (2, 3, 5),
             (4, -6), (4, 6))),
        (5, ((-4, -5), (-2, -4, -5), (-2, -3, 5), (-2, 3, 5), (-1, -4), (-1, 3, -5), (1, -4, 5),
             (1, -3, -5), (1, -2, 5), (1, 4, 5), (2, -4), (2, -3), (2, 4), (4, -5))),
        (5, ((-2, -4), (-2, -3, 4), (-2, 4), (-1, -2, 5), (-1, 2, -4), (-1, 2, -3), (-1, 2, 4),
             (1, -2, -5), (1, 4), (2, -3, -5), (2, -3, 5), (3, -4), (3, 4), (3, 5))),
    ]


def some_numbers(state, many):
    """The next state, and so many numbers, by a rule that mixes them well enough."""
    found = []
    for _ in range(many):
        state = (state * 6364136223846793005 + 1442695040888963407) % 2 ** 64
        found.append(state >> 33)
    return state, found


def lines_run(action, *given):
    """How many lines of the program a call runs, also if it refuses what it is given.

    This does not hang on the machine, as the time of a call would.
    """
    many = 0

    def step(_frame, event, _given):
        nonlocal many
        many += event == "line"
        return step

    ahead = sys.gettrace()
    sys.settrace(step)
    try:
        action(*given)
    except ClauseError:
        pass
    finally:
        sys.settrace(ahead)
    return many


def refused_part(action, *given):
    """The part for which a call refuses a BUNDLE, None if it does not."""
    try:
        action(*given)
    except BadBundle as error:
        return error.part
    except ClauseError:
        pass
    return None


def does_touch(setting, clause):
    """A second opinion: whether they have a NAME in common."""
    return not {abs(k) for k in setting}.isdisjoint({abs(k) for k in clause})


def does_meet(setting, clause):
    """A second opinion: whether they have a LITERAL in common."""
    return not set(setting).isdisjoint(clause)


class Case(unittest.TestCase):
    """A test case that asks for each result and each error twice."""

    def assert_told(self, wanted, action, *given):
        """The call tells this, also the second time, True not being 1; nothing is changed."""
        ahead = repr(given)
        for _ in range(2):
            found = action(*given)
            self.assertEqual(repr(found), repr(wanted), f"{action.__name__}{ahead:.300}")
            self.assertEqual(found, wanted)
            self.assertEqual(repr(given), ahead)

    def assert_refused(self, kind, field, wanted, action, *given):
        """The call raises just this error, with this one field; nothing is changed."""
        ahead = repr(given)
        for _ in range(2):
            with self.assertRaises(kind, msg=f"{action.__name__}{ahead:.300}") as caught:
                action(*given)
            error = caught.exception
            self.assertIs(error.__class__, kind)
            self.assertEqual(list(vars(error)), [field])
            found = getattr(error, field)
            self.assertIs(found.__class__, wanted.__class__)
            if found is not wanted:
                self.assertEqual(found, wanted)
            self.assertEqual(repr(given), ahead)

    def assert_keeps_given(self, kind, action, bundle, thing, *rest):
        """The second argument is refused, and the error has that very thing as given."""
        self.assert_refused(kind, "given", thing, action, bundle, thing, *rest)
        with self.assertRaises(kind) as caught:
            action(bundle, thing, *rest)
        self.assertIs(caught.exception.given, thing)

    def assert_verdict(self, verdict, action, *given):
        """The call tells a result, or refuses a PAPER for a part: ("told", ..) or ("part", ..)."""
        word, wanted = verdict
        if word == "told":
            self.assert_told(wanted, action, *given)
        else:
            self.assert_refused(BadPaper, "part", wanted, action, *given)

    def assert_same_again(self, action, *given):
        """What a call tells; it tells the same the second time, and changes nothing."""
        found = action(*given)
        self.assert_told(found, action, *given)
        return found

    def assert_needs_bundle(self, action, *rest):
        """What is no BUNDLE is refused, whatever stands behind it."""
        for thing in odd_things() + odd_integers() + [(), (3,), (3, (), ())]:
            self.assert_refused(BadBundle, "part", "form", action, thing, *rest)
        for part, thing in wrong_bundles():
            self.assert_refused(BadBundle, "part", part, action, thing, *rest)


def wrong_bundles():
    """Pairs of the part that is told, and a pair that is no BUNDLE for this part."""
    many = tuple((a, b) for a in range(1, 5) for b in range(5, 8)) + ((5,), (6,), (7,))
    full = tuple(sorted(many + ((1,), (2,))))
    return [
        ("names", (0, ())), ("names", (8, ())), ("names", (-1, ())), ("names", (10 ** 59, ())),
        ("names", (True, ())), ("names", (None, ())), ("names", ("3", ())), ("names", ((), 3)),
        ("names", (True, ((1,),))), ("names", (0, None)), ("names", (8, ((0,),))),
        ("clauses", (3, None)), ("clauses", (3, [])), ("clauses", (3, [(1,)])), ("clauses", (3, 3)),
        ("clauses", (3, "")), ("clauses", (3, {})), ("clauses", (3, True)), ("clauses", (7, full)),
        ("clauses", (7, ((0,),) * 17)), ("clauses", (7, (None,) * 20000)),
        (0, (3, (None,))), (0, (3, (1,))), (0, (3, ((4,),))), (0, (3, ((-4,),))), (0, (1, ((2,),))),
        (0, (7, ((8,),))), (0, (3, ([1],))), (0, (3, ((0,),))), (0, (3, ((True,),))),
        (0, (3, ((2, 1),))), (0, (3, ((1, -1),))), (0, (3, ((1, 1),))), (0, (3, ("ab",))),
        (0, (3, (((1,),),))), (0, (3, ((1, None), (1,), (1,)))),
        (1, (3, ((1,), (1,)))), (1, (3, ((), ()))), (1, (3, ((1,), ()))), (1, (3, ((1,), (-1,)))),
        (1, (3, ((1,), None, (1,)))), (1, (3, ((1, 2), (1,)))), (1, (3, ((2,), (1, 2)))),
        (2, (3, ((), (1,), (1,), (1,)))), (2, (3, ((-2,), (1,), (1, 4), ()))),
        (15, (7, full[:15] + (full[14],))), (15, (7, full[:15] + ("x",))),
    ]
