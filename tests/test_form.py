"""The package's files keep to the form that is asked of them, as far as a glance at their trees can tell."""

import ast
import builtins
import inspect
import io
import pathlib
import re
import tokenize
import unittest

from toldpatterns import patterns

PACKAGE = pathlib.Path(patterns.__file__).parent
FILES = sorted(PACKAGE.glob("*.py"))
TREES = {path.stem: ast.parse(path.read_text()) for path in FILES}
NODES = [(file, node) for (file, tree) in TREES.items() for node in ast.walk(tree)]

CALLS = {
    "judge": "(p)", "name": "(k, p)", "whole": "(p, t)", "find": "(from_byte, p, t)", "all_of": "(p, t)",
    "put": "(p, t, r)", "split": "(p, t)",
}

BARRED_WORDS = re.compile(
    r"\b(type|typing|typing_extensions|enum|Enum|IntEnum|StrEnum|Flag|IntFlag|Generic|Protocol|ABC|ABCMeta"
    r"|namedtuple|NamedTuple|TypedDict|TYPE_CHECKING|abstractmethod)\b|dataclass|overload|contextmanager"
)
BARRED_NAMES = set(
    "register mro elements open input version_info with_traceback add_note attrgetter breakpoint builtins compile"
    " copyright credits delattr dir eval exec exit gc getattr globals hasattr help id importlib license locals"
    " methodcaller os quit setattr super type vars sys".split()
)
ALLOWED_BUILTINS = set(
    "len range enumerate zip min max sum abs sorted reversed int str bool list tuple dict set frozenset isinstance"
    " ord repr any all divmod Exception ValueError KeyError IndexError LookupError ZeroDivisionError".split()
)
ALLOWED_METHODS = set(
    "append clear copy count endswith extend find get index insert isalnum isalpha isdigit islower isspace isupper"
    " items join keys ljust lower lstrip partition pop remove replace reverse rfind rjust rpartition rsplit rstrip"
    " setdefault split splitlines startswith strip update upper values zfill bit_length".split()
)
ALLOWED_VALUES = set("count index title find get join lower upper split strip copy add".split())
WALKED_AT_ONCE = {"zip", "enumerate", "reversed", "range"}
WALKERS = {"list", "tuple", "dict", "sorted", "sum", "any", "all", "enumerate", "zip", "min", "max"}
BARRED_NODES = (
    ast.Import, ast.With, ast.Match, ast.Delete, ast.Global, ast.Nonlocal, ast.Assert, ast.Yield, ast.YieldFrom,
    ast.AsyncFunctionDef, ast.Await, ast.SetComp, ast.DictComp, ast.GeneratorExp, ast.NamedExpr, ast.Starred,
    ast.Div, ast.MatMult, ast.Set, ast.AnnAssign,
)
OWN_ERRORS = {"Fault", "Refusal"}
OWN_VALUES = (str, int, list, dict, set, bytes, tuple)


def called(node):
    """The name of what is called by it, if it's called by its name alone."""
    if isinstance(node, ast.Call) and isinstance(node.func, ast.Name):
        return node.func.id
    return None


def definitions(tree):
    return [node for node in tree.body if isinstance(node, (ast.FunctionDef, ast.ClassDef))]


def imported(tree):
    """The names that a file draws from others, with the file that each is from."""
    return {
        alias.name: node.module.split(".")[-1]
        for node in tree.body if isinstance(node, ast.ImportFrom) for alias in node.names
    }


def bound_at_top(tree):
    names = [node.name for node in definitions(tree)] + list(imported(tree))
    return names + [node.targets[0].id for node in tree.body if isinstance(node, ast.Assign)]


class Interface(unittest.TestCase):

    def test_calls_and_their_arguments(self):
        for (call, arguments) in CALLS.items():
            self.assertEqual(str(inspect.signature(getattr(patterns, call))), arguments)
            self.assertEqual(getattr(patterns, call).__module__, "toldpatterns.patterns")

    def test_answers_are_lists_of_plain_whole_numbers(self):
        answers = []
        for p in (list(b"<a >"), list(b"<a a>|<b b>"), list(b"("), [97] * 129):
            answers += [patterns.judge(p)] + [patterns.name(k, p) for k in (0, 2)]
            for t in ([], list(b"a"), list(b"bb"), [0xFF]):
                answers += [patterns.whole(p, t)] + [patterns.find(from_byte, p, t) for from_byte in (-1, 0, 1)]
                answers += [patterns.all_of(p, t), patterns.split(p, t)]
                answers += [patterns.put(p, t, list(r)) for r in (b"$0", b"$q", b"x" * 128)]
        for answer in answers:
            self.assertIs(type(answer), list)
            self.assertEqual({type(number) for number in answer}, {int})


class Files(unittest.TestCase):

    def test_nothing_else_lies_in_the_package(self):
        others = [path.name for path in PACKAGE.iterdir() if path not in FILES and path.name != "__pycache__"]
        self.assertEqual(others, [])

    def test_signs_and_sizes(self):
        for path in FILES:
            text = path.read_bytes().decode("ascii")
            self.assertRegex(text, r"\A[\n -~]*\Z", path.name)
            rows = text.split("\n")
            self.assertLess(len(rows), 400, path.name)
            self.assertLessEqual(max(len(row) for row in rows), 120, path.name)
            self.assertIsNone(BARRED_WORDS.search(text), path.name)

    def test_size_of_functions(self):
        for (file, node) in NODES:
            if isinstance(node, ast.FunctionDef):
                self.assertLessEqual(node.end_lineno - node.lineno + 1, 40, (file, node.name))

    def test_imports_are_the_packages_own_and_from_the_file_that_defines_them(self):
        for (file, tree) in TREES.items():
            for node in ast.walk(tree):
                if isinstance(node, ast.ImportFrom):
                    self.assertIn(node, tree.body)
                    self.assertEqual(node.level, 0, file)
                    self.assertRegex(node.module, r"\Atoldpatterns\.[a-z]+\Z")
                    self.assertEqual([alias.asname for alias in node.names], [None] * len(node.names))
            for (name, source) in imported(tree).items():
                own = set(bound_at_top(TREES[source])) - set(imported(TREES[source]))
                self.assertIn(name, own, file)

    def test_no_two_files_draw_from_one_another(self):
        drawing = {file: set(imported(tree).values()) for (file, tree) in TREES.items()}
        while drawing:
            last = [file for (file, sources) in drawing.items() if not sources & set(drawing)]
            self.assertTrue(last, drawing)
            for file in last:
                del drawing[file]

    def test_each_name_is_bound_once_and_the_calls_in_their_file_alone(self):
        everywhere = []
        for (file, tree) in TREES.items():
            names = bound_at_top(tree)
            self.assertEqual(len(names), len(set(names)), file)
            self.assertTrue(set(names).isdisjoint(dir(builtins)), file)
            everywhere += [node.name for node in definitions(tree)]
        for call in CALLS:
            self.assertEqual(everywhere.count(call), 1)

    def test_top_of_files(self):
        kinds = (ast.ImportFrom, ast.FunctionDef, ast.ClassDef, ast.Assign)
        for (file, tree) in TREES.items():
            self.assertIsInstance(tree.body[0], ast.Expr, file)
            self.assertIsNotNone(ast.get_docstring(tree), file)
            for node in tree.body[1:]:
                self.assertIsInstance(node, kinds, file)
                if isinstance(node, ast.ClassDef):
                    rest = node.body[1:] if ast.get_docstring(node) else node.body
                    self.assertEqual({type(method) for method in rest}, {ast.FunctionDef}, node.name)
                    self.assertLessEqual(len(node.bases), 1)


class Statements(unittest.TestCase):

    def test_nodes(self):
        for (file, node) in NODES:
            self.assertNotIsInstance(node, BARRED_NODES, (file, getattr(node, "lineno", 0)))
            if isinstance(node, ast.Assign):
                self.assertEqual(len(node.targets), 1, (file, node.lineno))
            if isinstance(node, (ast.For, ast.While)):
                self.assertEqual(node.orelse, [], (file, node.lineno))
            if isinstance(node, ast.Constant):
                self.assertNotIsInstance(node.value, (float, complex, bytes), (file, node.lineno))
            if isinstance(node, ast.FunctionDef):
                self.assertEqual((node.decorator_list, node.returns), ([], None), (file, node.name))
                self.assertEqual((node.args.vararg, node.args.kwarg, node.args.kwonlyargs), (None, None, []))
            if isinstance(node, ast.ListComp):
                self.assertEqual(len(node.generators), 1, (file, node.lineno))
                self.assertLessEqual(len(node.generators[0].ifs), 1, (file, node.lineno))
            if isinstance(node, ast.Compare) and isinstance(node.ops[0], (ast.Is, ast.IsNot)):
                self.assertIn(node.comparators[0].value, (None, True, False), (file, node.lineno))

    def test_errors(self):
        for (file, node) in NODES:
            if isinstance(node, ast.Try):
                self.assertEqual(node.finalbody, [])
                self.assertLessEqual({handler.type.id for handler in node.handlers}, OWN_ERRORS, (file, node.lineno))
            if isinstance(node, ast.Raise):
                self.assertIn(called(node.exc), OWN_ERRORS, (file, node.lineno))

    def test_what_is_walked_at_once(self):
        allowed = []
        for (file, node) in NODES:
            if isinstance(node, (ast.For, ast.comprehension)):
                allowed.append(node.iter)
            if called(node) in WALKERS:
                allowed += node.args
        for (file, node) in NODES:
            if called(node) in WALKED_AT_ONCE:
                self.assertIn(node, allowed, (file, node.lineno))

    def test_texts(self):
        for path in FILES:
            for token in tokenize.generate_tokens(io.StringIO(path.read_text()).readline):
                if token.type == tokenize.STRING:
                    self.assertNotIn("%", token.string, path.name)
                    self.assertRegex(token.string, r"""\A([^\\]|\\[nt\\"'])*\Z""", path.name)


class Names(unittest.TestCase):

    def test_pythons_own_names(self):
        for (file, node) in NODES:
            if isinstance(node, ast.Name) and node.id in dir(builtins):
                self.assertIn(node.id, ALLOWED_BUILTINS, (file, node.lineno))
                self.assertIsInstance(node.ctx, ast.Load, (file, node.lineno))
            if isinstance(node, ast.Name):
                self.assertNotIn(node.id, BARRED_NAMES, (file, node.lineno))

    def test_plain_names(self):
        for (file, node) in NODES:
            names = [getattr(node, field, None) for field in ("id", "attr", "arg", "name")]
            for name in names:
                if isinstance(name, str) and name != "__init__":
                    self.assertRegex(name, r"\A[A-Za-z][A-Za-z0-9_]*\Z", (file, node.lineno))

    def test_locals_are_called_like_nothing_else(self):
        for (file, tree) in TREES.items():
            taken = {node.name for node in tree.body if isinstance(node, ast.ClassDef)} | set(imported(tree))
            for function in ast.walk(tree):
                if not isinstance(function, ast.FunctionDef):
                    continue
                own = {node.arg for node in ast.walk(function) if isinstance(node, ast.arg)}
                own |= {node.id for node in ast.walk(function) if isinstance(node, ast.Name)
                        and isinstance(node.ctx, ast.Store)}
                self.assertTrue(own.isdisjoint(taken | set(dir(builtins)) | set(bound_at_top(tree))),
                                (file, function.name))

    def test_methods_and_values(self):
        methods = set()
        values = set()
        for (file, node) in NODES:
            if isinstance(node, ast.ClassDef):
                methods |= {method.name for method in node.body if isinstance(method, ast.FunctionDef)}
            if isinstance(node, ast.Attribute) and isinstance(node.ctx, ast.Store):
                values.add(node.attr)
        methods.discard("__init__")
        self.assertTrue(methods.isdisjoint(values), methods & values)
        pythons = {name for kind in OWN_VALUES for name in dir(kind)}
        self.assertLessEqual(methods & pythons, ALLOWED_METHODS)
        self.assertLessEqual(values & pythons, ALLOWED_VALUES)
        for (file, node) in NODES:
            if isinstance(node, ast.Attribute):
                self.assertIn(node.attr, methods | values | ALLOWED_METHODS, (file, node.lineno))

    def test_what_is_kept_at_the_top_is_only_read(self):
        for (file, tree) in TREES.items():
            kept = {node.targets[0].id for node in tree.body if isinstance(node, ast.Assign)
                    and isinstance(node.value, (ast.List, ast.Dict, ast.Tuple))}
            read = []
            for node in ast.walk(tree):
                if isinstance(node, (ast.Subscript, ast.Attribute)):
                    read.append(node.value)
                if isinstance(node, ast.Compare):
                    read += node.comparators
                if isinstance(node, (ast.For, ast.comprehension)):
                    read.append(node.iter)
                if called(node) in ("len", "list", "dict"):
                    read += node.args
            for node in ast.walk(tree):
                if isinstance(node, ast.Name) and node.id in kept and isinstance(node.ctx, ast.Load):
                    self.assertIn(node, read, (file, node.lineno))


if __name__ == "__main__":
    unittest.main()
