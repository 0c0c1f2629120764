"""The package's files keep to the form that is asked of them, as far as a glance can tell."""

import ast
import inspect
import pathlib
import re
import unittest

from toldpatterns import patterns

PACKAGE = pathlib.Path(patterns.__file__).parent
FILES = sorted(PACKAGE.glob("*.py"))
BARRED_WORDS = re.compile(
    r"\b(type|typing|typing_extensions|enum|Enum|IntEnum|StrEnum|Flag|IntFlag|Generic|Protocol|ABC|ABCMeta"
    r"|namedtuple|NamedTuple|TypedDict|TYPE_CHECKING|abstractmethod)\b|dataclass|overload|contextmanager"
)
ALLOWED_BUILTINS = set(
    "len range enumerate zip min max sum abs sorted reversed int str bool list tuple dict set frozenset isinstance"
    " ord repr any all divmod Exception ValueError KeyError IndexError LookupError ZeroDivisionError".split()
)


def trees():
    return [(path, ast.parse(path.read_text())) for path in FILES]


class Interface(unittest.TestCase):

    def test_calls_and_their_arguments(self):
        self.assertEqual(str(inspect.signature(patterns.judge)), "(p)")
        self.assertEqual(str(inspect.signature(patterns.name)), "(k, p)")

    def test_answers_are_lists_of_plain_whole_numbers(self):
        handed_in = [[ord("<"), ord("a"), 32, ord(">")], [ord("(")], [97] * 129]
        answers = [patterns.judge(p) for p in handed_in] + [patterns.name(k, p) for p in handed_in for k in (0, 1)]
        for answer in answers:
            self.assertIs(type(answer), list)
            self.assertEqual({type(number) for number in answer}, {int})


class Form(unittest.TestCase):

    def test_nothing_else_lies_in_the_package(self):
        others = [path.name for path in PACKAGE.iterdir() if path not in FILES and path.name != "__pycache__"]
        self.assertEqual(others, [])

    def test_signs_and_sizes(self):
        for path in FILES:
            text = path.read_bytes().decode("ascii")
            self.assertRegex(text, r"\A[\n -~]*\Z", path.name)
            rows = text.split("\n")
            self.assertLess(len(rows), 400, path.name)
            self.assertLessEqual(max(len(row) for row in rows), 120, path.name)
            self.assertIsNone(BARRED_WORDS.search(text), path.name)

    def test_size_of_functions(self):
        for (path, tree) in trees():
            for node in ast.walk(tree):
                if isinstance(node, ast.FunctionDef):
                    self.assertLessEqual(node.end_lineno - node.lineno + 1, 40, (path.name, node.name))

    def test_imports_are_the_packages_own(self):
        for (path, tree) in trees():
            for node in ast.walk(tree):
                self.assertNotIsInstance(node, ast.Import, path.name)
                if isinstance(node, ast.ImportFrom):
                    self.assertEqual(node.level, 0, path.name)
                    self.assertRegex(node.module, r"\Atoldpatterns\.[a-z]+\Z")
                    self.assertNotIn("*", [alias.name for alias in node.names])

    def test_pythons_own_names(self):
        own = set(dir(__builtins__) if not isinstance(__builtins__, dict) else __builtins__)
        for (path, tree) in trees():
            used = {node.id for node in ast.walk(tree) if isinstance(node, ast.Name)}
            self.assertLessEqual(used & own, ALLOWED_BUILTINS, path.name)


if __name__ == "__main__":
    unittest.main()
