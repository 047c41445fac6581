"""The interface stands where the document lists it, and the package keeps to the plain bounds of its language."""

import ast
import builtins
import inspect
import pathlib
import re
import unittest

from paidback import back, clubs, deeds, enough, kept

PACKAGE = pathlib.Path(__file__).resolve().parent.parent / "paidback"
FILES = sorted(PACKAGE.glob("*.py"))
LISTED = {
    clubs: {
        "is_state": ["thing"], "paid": ["state"], "bill_handed": ["state", "cents"],
        "come_handed": ["state", "name"], "go_handed": ["state", "name"],
    },
    deeds: {"behind": ["state", "deeds"], "handed": ["state", "deeds"], "again": ["state", "deeds", "times"]},
    enough: {"least_many": ["bills", "cents"], "through_hands": ["bills", "many"], "must_hand": ["bills", "many"]},
    back: {"bills_of": ["seen"], "bills_handing": ["many", "place", "cents"], "orders": ["bills", "known"]},
}
METHODS = {
    "bill": ["self", "cents"], "come": ["self", "name"], "go": ["self", "name"], "back": ["self"], "state": ["self"],
    "paid": ["self"], "handed": ["self"], "__len__": ["self"], "__eq__": ["self", "other"],
}
BUILTINS = set(
    "len range enumerate zip min max sum abs sorted reversed int str bool bytes list tuple dict set frozenset "
    "isinstance ord repr any all divmod super ValueError".split()
)
BARRED_WORDS = re.compile(
    r"\b(type|typing|typing_extensions|enum|Enum|IntEnum|StrEnum|Flag|IntFlag|Generic|Protocol|ABC|ABCMeta|namedtuple|"
    r"NamedTuple|TypedDict|TYPE_CHECKING|abstractmethod)\b|dataclass|overload|contextmanager"
)


def nodes_of(path, *kinds):
    return [node for node in ast.walk(ast.parse(path.read_text())) if isinstance(node, kinds)]


class Interface(unittest.TestCase):
    def test_functions_and_arguments(self):
        for module, functions in LISTED.items():
            for name, arguments in functions.items():
                with self.subTest(name):
                    function = getattr(module, name)
                    self.assertEqual(function.__module__, module.__name__)
                    self.assertEqual(list(inspect.signature(function).parameters), arguments)

    def test_the_methods_of_a_club_stand_in_it(self):
        self.assertEqual(kept.Club.__module__, "paidback.kept")
        self.assertEqual(list(inspect.signature(kept.Club).parameters), [])
        for name, arguments in METHODS.items():
            with self.subTest(name):
                self.assertIn(name, vars(kept.Club))
                self.assertEqual(list(inspect.signature(vars(kept.Club)[name]).parameters), arguments)


class Language(unittest.TestCase):
    def test_only_plain_files(self):
        found = [path.name for path in PACKAGE.iterdir() if path.name != "__pycache__"]
        self.assertEqual([name for name in found if not re.fullmatch(r"[a-z0-9_]+\.py", name)], [])
        self.assertIn("__init__.py", found)

    def test_sizes_and_signs(self):
        for path in FILES:
            lines = path.read_text().split("\n")
            self.assertLessEqual(len(lines), 399)
            for line in lines:
                self.assertLessEqual(len(line), 120)
                self.assertRegex(line, r"^[ -~]*$")
                self.assertIsNone(BARRED_WORDS.search(line), line)

    def test_short_functions(self):
        for path in FILES:
            for node in nodes_of(path, ast.FunctionDef):
                self.assertLessEqual(node.end_lineno - node.lineno + 1, 40, node.name)
                self.assertEqual(node.decorator_list, [])

    def test_imports_from_the_package_alone(self):
        for path in FILES:
            self.assertEqual(nodes_of(path, ast.Import), [])
            for node in nodes_of(path, ast.ImportFrom):
                self.assertTrue(node.module.startswith("paidback."), node.module)
                owner = PACKAGE / (node.module.split(".")[1] + ".py")
                text = owner.read_text()
                for alias in node.names:
                    self.assertRegex(text, rf"(?m)^(def |class )?{alias.name}\b", alias.name)

    def test_no_barred_kinds_of_code(self):
        # A class of the package has an equality of its own: so there is no generator expression either.
        barred = (ast.Global, ast.AsyncFunctionDef, ast.Await, ast.Div, ast.GeneratorExp)
        for path in FILES:
            self.assertEqual(nodes_of(path, *barred), [], path.name)
            for node in nodes_of(path, ast.Constant):
                self.assertNotIsInstance(node.value, (float, complex))

    def test_plain_names_and_builtins(self):
        for path in FILES:
            for node in nodes_of(path, ast.Name):
                self.assertFalse(node.id.startswith("_"), node.id)
                if hasattr(builtins, node.id):
                    self.assertIsInstance(node.ctx, ast.Load)
                    self.assertIn(node.id, BUILTINS)


if __name__ == "__main__":
    unittest.main()
