"""The plainest rules for the package's code, and that each name of the interface is defined."""

import ast
import pathlib
import unittest

FOLDER = pathlib.Path(__file__).resolve().parent.parent / "idleclauses"
INTERFACE = {
    "errors": (
        "ClauseError BadBundle BadPaper BadChain BadTidy BadSetting BadNumber BadLot BadClause "
        "BadHalves BadWeighing BadNumbers BadMatching BadPrices BadLabel BadTerm Unweighed BadText "
        "TooMany NothingLeft Missing"
    ),
    "bundles": "need_bundle need_clause crossed without put_to",
    "settings": "need_setting touched met is_tidy meeting_setting is_at_odds",
    "chains": "need_chain clauses_of uses refutation",
    "kernels": (
        "kernel used_paper check_used kernel_paper check_kernel always_used single_chain"
    ),
    "tidy": "all_tidy least_tidy greatest_tidy followed_by struck_by peeled",
    "readings": (
        "read_by is_plain plain_reading all_plain nearest_reading reading_paper check_reading"
    ),
    "halves": "are_halves all_halves rounded halves_paper check_halves tidy_by",
    "following": "followed answer_paper check_answer least_setting",
    "matchings": (
        "greatest_matching setting_by more_of excess excess_paper check_excess"
    ),
    "leastlots": "is_least_lot first_least least_lots least_paper check_least least_mores",
    "plainlots": "put does_end_well plain_row plain_lots",
    "counts": "are_clashing count count_paper check_count",
    "servedlots": "is_served greatest_served residue served_paper check_served",
    "terms": "need_term bundle_of kids_of",
    "made": "set_to merged both_of beside_of either_of",
    "easings": (
        "is_easing least_easings least_cost cheapest_easing cost_paper check_cost limit_of"
    ),
    "bench": "Bench under",
    "shelf": "Shelf",
    "texts": "term_text bundle_text read_term read_bundle",
    "judge": "judged",
    "desk": "Desk",
}
# What each class has in its own body, beside what it begins with.
METHODS = {
    "bench": {
        "Bench": "bundle kernel_now put strike settle undo copy trial __len__ __eq__",
        "Trial": "__enter__ __exit__",
    },
    "shelf": {"Shelf": "__init__ put take seek stronger labels alike __len__ __contains__ __eq__"},
    "desk": {"Desk": "__init__ bench say"},
}
BUILTINS = (
    "len range enumerate zip min max sum abs sorted reversed int str bool bytes list tuple dict set "
    "frozenset isinstance ord repr any all divmod map iter next super print property staticmethod "
    "classmethod object Exception ValueError TypeError KeyError IndexError LookupError "
    "ZeroDivisionError ArithmeticError OverflowError RuntimeError NotImplementedError "
    "AttributeError StopIteration NotImplemented"
).split()
LIBRARY = {
    "heapq": "heappush heappop heapify heapreplace heappushpop",
    "math": "gcd lcm isqrt comb perm factorial",
    "itertools": "product combinations permutations",
}
# Generator expressions go nowhere where a class has an __eq__, as Bench has.
BARRED = (
    ast.Global, ast.AsyncFunctionDef, ast.AsyncFor, ast.AsyncWith, ast.Await, ast.Div, ast.Import,
    ast.GeneratorExp,
)


def files():
    """The package's files with their texts."""
    return [(path, path.read_text("utf-8")) for path in sorted(FOLDER.rglob("*.py"))]


def trees():
    """The package's files as trees."""
    return [(path, ast.parse(text)) for path, text in files()]


def nodes(kind):
    """All nodes of a kind, with the place of each."""
    return [(f"{path.name}:{getattr(node, 'lineno', 0)}", node)
            for path, tree in trees() for node in ast.walk(tree) if isinstance(node, kind)]


def bound_in(tree):
    """All names that a file binds anywhere."""
    found = []
    for node in ast.walk(tree):
        if isinstance(node, (ast.FunctionDef, ast.ClassDef)):
            found.append(node.name)
        elif isinstance(node, ast.alias):
            found.append(node.name)
        elif isinstance(node, ast.arg):
            found.append(node.arg)
        elif isinstance(node, ast.ExceptHandler) and node.name:
            found.append(node.name)
        elif isinstance(node, ast.Name) and not isinstance(node.ctx, ast.Load):
            found.append(node.id)
    return found


class Files(unittest.TestCase):
    def test_nothing_else_in_the_folder(self):
        for path in FOLDER.rglob("*"):
            if "__pycache__" not in path.parts and not path.is_dir():
                self.assertEqual(path.suffix, ".py", path)
                self.assertEqual(path.name, path.name.lower())

    def test_size_and_characters(self):
        for path, text in files():
            rows = text.split("\n")
            self.assertLessEqual(len(rows), 400, path)
            for at, row in enumerate(rows, 1):
                self.assertLessEqual(len(row), 120, f"{path.name}:{at}")
                self.assertTrue(all(" " <= sign <= "~" for sign in row), f"{path.name}:{at}")

    def test_size_of_functions(self):
        for place, node in nodes(ast.FunctionDef):
            self.assertLessEqual(node.end_lineno - node.lineno + 1, 40, place)

    def test_module_level(self):
        allowed = (ast.ImportFrom, ast.FunctionDef, ast.ClassDef, ast.Assign, ast.Expr)
        for path, tree in trees():
            for at, node in enumerate(tree.body):
                self.assertIsInstance(node, allowed, path)
                if isinstance(node, ast.Expr):
                    self.assertEqual(at, 0, path)
                    self.assertIsInstance(node.value.value, str, path)


class Code(unittest.TestCase):
    def test_barred_forms(self):
        self.assertEqual([place for place, _ in nodes(BARRED)], [])

    def test_imports(self):
        modules = [f"idleclauses.{path.stem}" for path, _ in files()]
        for place, node in nodes(ast.ImportFrom):
            self.assertEqual(node.level, 0, place)
            for alias in node.names:
                if node.module in LIBRARY:
                    self.assertIn(alias.name, LIBRARY[node.module].split(), place)
                else:
                    self.assertIn(node.module, modules, place)
                    self.assertIn(alias.name, self.defined(node.module.split(".")[1]), place)

    def defined(self, module):
        """The names that a file defines itself, at its own level."""
        tree = ast.parse((FOLDER / f"{module}.py").read_text("utf-8"))
        found = [node.name for node in tree.body if isinstance(node, (ast.FunctionDef, ast.ClassDef))]
        return found + [target.id for node in tree.body if isinstance(node, ast.Assign)
                        for target in node.targets]

    def test_interface(self):
        for module, names in INTERFACE.items():
            for name in names.split():
                self.assertIn(name, self.defined(module))

    def test_methods(self):
        for module, classes in METHODS.items():
            tree = ast.parse((FOLDER / f"{module}.py").read_text("utf-8"))
            found = {node.name: [part.name for part in node.body if isinstance(part, ast.FunctionDef)]
                     for node in tree.body if isinstance(node, ast.ClassDef)}
            for name, methods in classes.items():
                for method in methods.split():
                    self.assertIn(method, found[name], module)

    def test_names(self):
        for path, tree in trees():
            bound = bound_in(tree)
            for name in bound:
                self.assertNotIn(name, BUILTINS, path)
                self.assertTrue(name.isascii(), path)
            for node in ast.walk(tree):
                if isinstance(node, ast.Name) and isinstance(node.ctx, ast.Load):
                    self.assertIn(node.id, bound + BUILTINS, f"{path.name}:{node.lineno}")
                    self.assertNotEqual(node.id, "_", f"{path.name}:{node.lineno}")

    def test_constants(self):
        for place, node in nodes(ast.Constant):
            self.assertNotIsInstance(node.value, (float, complex), place)
            if isinstance(node.value, str):
                self.assertNotIn("%", node.value, place)


if __name__ == "__main__":
    unittest.main()
