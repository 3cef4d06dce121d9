"""The classes of idleclauses.errors: their bases, their attributes, and nothing else."""

import unittest

from idleclauses import errors
from tests.helper import odd_integers, odd_things, odd_tuples

REFUSED = {
    "BadBundle": ("part",), "BadPaper": ("part",), "BadChain": ("number",), "BadTidy": ("number",),
    "BadSetting": ("given",), "BadNumber": ("given",), "BadLot": ("given",),
    "BadClause": ("given",), "BadHalves": ("given",), "BadWeighing": ("given",),
    "BadNumbers": ("given",), "BadMatching": ("given",), "BadPrices": ("given",),
    "BadLabel": ("given",), "BadTerm": ("path",), "Unweighed": ("hefts",),
    "BadText": ("line", "word"),
}
OTHERS = {
    "TooMany": (OverflowError, ("most",)), "NothingLeft": (RuntimeError, ("many",)),
    "Missing": (KeyError, ("given",)),
}


def kinds():
    """Each class that is made with something, and the names of its attributes."""
    fields = dict(REFUSED)
    fields.update({name: OTHERS[name][1] for name in OTHERS})
    return [(getattr(errors, name), fields[name]) for name in fields]


class Bases(unittest.TestCase):
    def test_the_root(self):
        self.assertEqual(errors.ClauseError.__bases__, (ValueError,))
        self.assertEqual(str(errors.ClauseError("why")), "why")

    def test_those_straight_under_it(self):
        for name in REFUSED:
            self.assertEqual(getattr(errors, name).__bases__, (errors.ClauseError,), name)

    def test_those_under_errors_of_python(self):
        for name, (base, _) in OTHERS.items():
            self.assertEqual(getattr(errors, name).__bases__, (base,), name)
            self.assertFalse(issubclass(getattr(errors, name), errors.ClauseError), name)

    def test_none_is_under_another_one(self):
        found = [kind for kind, _ in kinds()]
        for one in found:
            for other in found:
                self.assertEqual(issubclass(one, other), one is other)

    def test_each_is_defined_there_itself(self):
        for kind, _ in kinds():
            self.assertEqual(kind.__module__, "idleclauses.errors")
            self.assertIn("__init__", vars(kind))

    def test_caught_by_its_name_and_its_base(self):
        for kind, fields in kinds():
            for caught in (kind, kind.__bases__[0]):
                with self.assertRaises(caught):
                    raise kind(*fields)


class Attributes(unittest.TestCase):
    def test_made_of_any_things(self):
        for kind, fields in kinds():
            for thing in odd_things() + odd_tuples() + odd_integers() + [0, 1, "form"]:
                error = kind(*[thing for _ in fields])
                self.assertEqual(tuple(vars(error)), fields)
                for field in fields:
                    self.assertIs(getattr(error, field), thing)

    def test_line_and_word_apart(self):
        for line in odd_things() + [0, 3]:
            error = errors.BadText(line, 5)
            self.assertIs(error.line, line)
            self.assertEqual(error.word, 5)
            self.assertIs(errors.BadText(5, line).word, line)

    def test_as_many_arguments_as_attributes(self):
        for kind, fields in kinds():
            for many in range(4):
                if many != len(fields):
                    with self.assertRaises(TypeError):
                        kind(*[1] * many)

    def test_each_keeps_its_own(self):
        for kind, fields in kinds():
            one = kind(*[1 for _ in fields])
            other = kind(*[2 for _ in fields])
            self.assertEqual([getattr(one, field) for field in fields], [1] * len(fields))
            self.assertEqual([getattr(other, field) for field in fields], [2] * len(fields))


if __name__ == "__main__":
    unittest.main()
