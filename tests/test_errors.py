"""The classes of idleclauses.errors: their bases, their attributes, and nothing else."""

import unittest

from idleclauses import errors
from idleclauses.bench import Bench
from idleclauses.bundles import crossed, need_bundle, need_clause, put_to, without
from idleclauses.chains import uses
from idleclauses.easings import least_cost
from idleclauses.following import answer_paper
from idleclauses.halves import rounded, tidy_by
from idleclauses.kernels import check_kernel
from idleclauses.matchings import more_of, setting_by
from idleclauses.settings import met
from idleclauses.shelf import Shelf
from idleclauses.terms import need_term
from idleclauses.texts import read_term
from idleclauses.tidy import peeled
from tests.helper import odd_integers, odd_things, odd_tuples

REFUSED = {
    "BadBundle": ("part",), "BadPaper": ("part",), "BadChain": ("number",), "BadTidy": ("number",),
    "BadSetting": ("given",), "BadNumber": ("given",), "BadLot": ("given",),
    "BadClause": ("given",), "BadHalves": ("given",), "BadWeighing": ("given",),
    "BadNumbers": ("given",), "BadMatching": ("given",), "BadPrices": ("given",),
    "BadLabel": ("given",), "BadTerm": ("path",), "Unweighed": ("hefts",),
    "BadText": ("line", "word"),
}
OTHERS = {
    "TooMany": (OverflowError, ("most",)), "NothingLeft": (RuntimeError, ("many",)),
    "Missing": (KeyError, ("given",)),
}


def kinds():
    """Each class that is made with something, and the names of its attributes."""
    fields = dict(REFUSED)
    fields.update({name: OTHERS[name][1] for name in OTHERS})
    return [(getattr(errors, name), fields[name]) for name in fields]


class Bases(unittest.TestCase):
    def test_the_root(self):
        self.assertEqual(errors.ClauseError.__bases__, (ValueError,))
        self.assertEqual(str(errors.ClauseError("why")), "why")

    def test_those_straight_under_it(self):
        for name in REFUSED:
            self.assertEqual(getattr(errors, name).__bases__, (errors.ClauseError,), name)

    def test_those_under_errors_of_python(self):
        for name, (base, _) in OTHERS.items():
            self.assertEqual(getattr(errors, name).__bases__, (base,), name)
            self.assertFalse(issubclass(getattr(errors, name), errors.ClauseError), name)

    def test_none_is_under_another_one(self):
        found = [kind for kind, _ in kinds()]
        for one in found:
            for other in found:
                self.assertEqual(issubclass(one, other), one is other)

    def test_each_is_defined_there_itself(self):
        for kind, _ in kinds():
            self.assertEqual(kind.__module__, "idleclauses.errors")
            self.assertIn("__init__", vars(kind))

    def test_caught_by_its_name_and_its_base(self):
        for kind, fields in kinds():
            for caught in (kind, kind.__bases__[0]):
                with self.assertRaises(caught):
                    raise kind(*fields)


class Attributes(unittest.TestCase):
    def test_made_of_any_things(self):
        for kind, fields in kinds():
            for thing in odd_things() + odd_tuples() + odd_integers() + [0, 1, "form"]:
                error = kind(*[thing for _ in fields])
                self.assertEqual(tuple(vars(error)), fields)
                for field in fields:
                    self.assertIs(getattr(error, field), thing)

    def test_line_and_word_apart(self):
        for line in odd_things() + [0, 3]:
            error = errors.BadText(line, 5)
            self.assertIs(error.line, line)
            self.assertEqual(error.word, 5)
            self.assertIs(errors.BadText(5, line).word, line)

    def test_as_many_arguments_as_attributes(self):
        for kind, fields in kinds():
            for many in range(4):
                if many != len(fields):
                    with self.assertRaises(TypeError):
                        kind(*[1] * many)

    def test_each_keeps_its_own(self):
        for kind, fields in kinds():
            one = kind(*[1 for _ in fields])
            other = kind(*[2 for _ in fields])
            self.assertEqual([getattr(one, field) for field in fields], [1] * len(fields))
            self.assertEqual([getattr(other, field) for field in fields], [2] * len(fields))


AB = (2, ((-1, 2), (1,)))
CUBE = (3, tuple((a, b, c) for a in (-1, 1) for b in (-2, 2) for c in (-3, 3)))
FULL = (5, tuple(sorted((a, b) for a in (1, -1, 2, -2) for b in (3, -3, 4, -4))))
CALLS = {
    "BadBundle": (need_bundle, 5), "BadPaper": (check_kernel, AB, 5), "BadChain": (uses, AB, 5),
    "BadTidy": (peeled, AB, 5), "BadSetting": (met, AB, 5), "BadNumber": (without, AB, 5),
    "BadLot": (crossed, AB, 5), "BadClause": (need_clause, AB, 5), "BadHalves": (tidy_by, AB, 5),
    "BadWeighing": (rounded, AB, 5), "BadNumbers": (more_of, AB, 5), "BadMatching": (setting_by, AB, 5),
    "BadPrices": (least_cost, AB, 5), "BadLabel": (Shelf().put, 5, 5), "BadTerm": (need_term, 5),
    "Unweighed": (answer_paper, CUBE), "BadText": (read_term, 5), "TooMany": (put_to, FULL, ()),
    "NothingLeft": (Bench(AB).undo, 5), "Missing": (Shelf().seek, 5),
}


class Raised(unittest.TestCase):
    def test_each_class_is_raised_somewhere(self):
        self.assertEqual(set(CALLS), {kind.__name__ for kind, _ in kinds()})

    def test_caught_by_its_name_and_by_each_class_above(self):
        for kind, fields in kinds():
            action, *given = CALLS[kind.__name__]
            for caught in kind.__mro__[:-1]:
                with self.assertRaises(caught) as told:
                    action(*given)
                self.assertIs(told.exception.__class__, kind)
                self.assertEqual(list(vars(told.exception)), list(fields))

    def test_given_is_the_very_thing(self):
        for kind, fields in kinds():
            if fields == ("given",):
                action, *given = CALLS[kind.__name__]
                thing = ["x"]
                given = [thing if item == 5 else item for item in given]
                with self.assertRaises(kind) as told:
                    action(*given)
                self.assertIs(told.exception.given, thing)


if __name__ == "__main__":
    unittest.main()
