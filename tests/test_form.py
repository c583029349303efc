"""The form of the package's files: what LANGUAGE.md's rules and the document's last paragraph let a test see."""

import ast
import builtins
import pathlib
import re
import unittest

PACKAGE = pathlib.Path(__file__).resolve().parent.parent / "stepcircuits"

CALLABLE = """len range enumerate zip min max sum abs sorted reversed int str bool list tuple dict set frozenset
    isinstance ord repr any all divmod""".split()
ERRORS = """Exception ValueError TypeError KeyError IndexError LookupError ZeroDivisionError ArithmeticError
    OverflowError RuntimeError NotImplementedError AttributeError StopIteration""".split()
METHODS = """append clear copy count endswith extend find get index insert isalnum isalpha isdigit islower isspace
    isupper items join keys ljust lower lstrip partition pop remove replace reverse rfind rjust rpartition rsplit
    rstrip setdefault split splitlines startswith strip update upper values zfill bit_length""".split()
WALKED = ("zip", "enumerate", "reversed", "range", "items", "keys", "values")
OUTSIDE_WORDS = """type typing typing_extensions enum Enum IntEnum StrEnum Flag IntFlag Generic Protocol ABC ABCMeta
    namedtuple NamedTuple TypedDict TYPE_CHECKING abstractmethod""".split()
WITHIN_WORDS = ("dataclass", "overload", "contextmanager")
UNUSED_NAMES = """register mro elements open input version_info with_traceback add_note""".split()

STATEMENTS = (
    ast.Assign, ast.AugAssign, ast.If, ast.While, ast.For, ast.Return, ast.Break, ast.Continue, ast.Pass, ast.Raise,
    ast.Try, ast.Expr, ast.FunctionDef, ast.ClassDef,
)
EXPRESSIONS = (
    ast.BoolOp, ast.BinOp, ast.UnaryOp, ast.Lambda, ast.IfExp, ast.Dict, ast.ListComp, ast.Compare, ast.Call,
    ast.JoinedStr, ast.FormattedValue, ast.Constant, ast.Attribute, ast.Subscript, ast.Name, ast.List, ast.Tuple,
    ast.Slice,
)
OPERATORS = (
    ast.Add, ast.Sub, ast.Mult, ast.FloorDiv, ast.Mod, ast.Pow, ast.BitOr, ast.BitXor, ast.BitAnd, ast.LShift,
    ast.RShift,
)


def sources():
    for path in sorted(PACKAGE.glob("*.py")):
        text = path.read_bytes().decode("ascii")
        yield path, text, ast.parse(text)


def parents(tree):
    return {child: node for node in ast.walk(tree) for child in ast.iter_child_nodes(node)}


def bound_names(tree):
    for node in ast.walk(tree):
        if isinstance(node, ast.arg):
            yield node.arg
        elif isinstance(node, (ast.FunctionDef, ast.ClassDef)):
            yield node.name
        elif isinstance(node, ast.Name) and isinstance(node.ctx, ast.Store):
            yield node.id


def called_name(call):
    return call.func.id if isinstance(call.func, ast.Name) else call.func.attr


class Files(unittest.TestCase):
    def test_the_folder_holds_its_own_files_alone(self):
        found = [path.name for path in PACKAGE.iterdir() if path.name != "__pycache__"]
        self.assertEqual(["__init__.py", "circuits.py"], sorted(found))

    def test_signs_and_sizes(self):
        for path, text, tree in sources():
            self.assertTrue(all(" " <= sign <= "~" or sign == "\n" for sign in text), path)
            lines = text.split("\n")
            self.assertLessEqual(len(lines), 401, path)
            self.assertLessEqual(max(len(line) for line in lines), 120, path)
            for node in ast.walk(tree):
                if isinstance(node, ast.FunctionDef):
                    self.assertLessEqual(node.end_lineno - node.lineno + 1, 40, node.name)

    def test_words_that_stand_nowhere(self):
        for path, text, _ in sources():
            words = re.findall(r"[A-Za-z0-9_]+", text)
            for word in words:
                self.assertNotIn(word, OUTSIDE_WORDS, path)
                self.assertFalse(any(part in word for part in WITHIN_WORDS), word)

    def test_no_percent_sign_within_a_text(self):
        for path, _, tree in sources():
            for node in ast.walk(tree):
                if isinstance(node, ast.Constant) and isinstance(node.value, str):
                    self.assertNotIn("%", node.value, path)


class Statements(unittest.TestCase):
    def test_nothing_is_imported(self):
        for path, _, tree in sources():
            for node in ast.walk(tree):
                self.assertNotIsInstance(node, (ast.Import, ast.ImportFrom), path)

    def test_the_top_of_a_module(self):
        for path, _, tree in sources():
            self.assertIsNotNone(ast.get_docstring(tree), path)
            for node in tree.body[1:]:
                self.assertIsInstance(node, (ast.Assign, ast.FunctionDef, ast.ClassDef), path)
            names = [node.name for node in tree.body if isinstance(node, (ast.FunctionDef, ast.ClassDef))]
            names += [target.id for node in tree.body if isinstance(node, ast.Assign) for target in node.targets]
            self.assertEqual(sorted(set(names)), sorted(names), path)
            for node in tree.body:
                if isinstance(node, ast.Assign):
                    self.assertNotIsInstance(ast.literal_eval(node.value), (list, dict, set), node.lineno)

    def test_statements_and_expressions(self):
        for path, _, tree in sources():
            for node in ast.walk(tree):
                where = (path.name, getattr(node, "lineno", None))
                if isinstance(node, ast.stmt):
                    self.assertIsInstance(node, STATEMENTS, where)
                if isinstance(node, ast.expr):
                    self.assertIsInstance(node, EXPRESSIONS, where)
                if isinstance(node, ast.operator):
                    self.assertIsInstance(node, OPERATORS)
                self.check_node(node, where)

    def check_node(self, node, where):
        if isinstance(node, ast.Assign):
            self.assertEqual(1, len(node.targets), where)
            self.assertNotIsInstance(node.targets[0], (ast.Tuple, ast.List), where)
        if isinstance(node, (ast.For, ast.While)):
            self.assertEqual([], node.orelse, where)
        if isinstance(node, ast.Try):
            self.assertEqual([], node.finalbody, where)
        if isinstance(node, ast.Constant):
            self.assertIsInstance(node.value, (int, str, type(None)), where)
        if isinstance(node, ast.ListComp):
            self.assertEqual(1, len(node.generators), where)
            self.assertLessEqual(len(node.generators[0].ifs), 1, where)
        if isinstance(node, ast.FunctionDef):
            self.assertEqual([], node.decorator_list, where)
        if isinstance(node, ast.arguments):
            self.assertEqual((None, None, [], []), (node.vararg, node.kwarg, node.kwonlyargs, node.posonlyargs))
        if isinstance(node, ast.BinOp) and isinstance(node.op, ast.Pow):
            self.assertIsInstance(node.right, ast.Constant, where)
            self.assertIn(node.right.value, range(65), where)
        if isinstance(node, ast.Compare) and any(isinstance(op, (ast.Is, ast.IsNot)) for op in node.ops):
            self.assertTrue(any(isinstance(side, ast.Constant) for side in [node.left] + node.comparators), where)


class Names(unittest.TestCase):
    def test_own_names(self):
        for path, _, tree in sources():
            for name in bound_names(tree):
                self.assertRegex(name, r"^[A-Za-z][A-Za-z0-9_]*$", path)
                self.assertNotIn(name, dir(builtins), path)
                self.assertNotIn(name, UNUSED_NAMES, path)

    def test_names_of_pythons_own(self):
        for path, _, tree in sources():
            own = set(bound_names(tree))
            for node in ast.walk(tree):
                if isinstance(node, ast.Name) and node.id not in own:
                    self.assertIn(node.id, CALLABLE + ERRORS, (path, node.lineno))

    def test_methods_of_pythons_own(self):
        for path, _, tree in sources():
            above = parents(tree)
            for node in ast.walk(tree):
                if isinstance(node, ast.Attribute):
                    self.assertIn(node.attr, METHODS, (path, node.lineno))
                    self.assertIsInstance(above[node], ast.Call, (path, node.lineno))

    def test_walked_on_the_spot(self):
        for path, _, tree in sources():
            above = parents(tree)
            for node in ast.walk(tree):
                if isinstance(node, ast.Call) and called_name(node) in WALKED:
                    self.assertIsInstance(above[node], (ast.For, ast.comprehension, ast.Call), (path, node.lineno))

    def test_what_is_walked_is_not_changed(self):
        for path, _, tree in sources():
            for loop in ast.walk(tree):
                if isinstance(loop, ast.For):
                    walked = {node.id for node in ast.walk(loop.iter) if isinstance(node, ast.Name)}
                    self.assertEqual(set(), walked & set(self.changed(loop)), (path, loop.lineno))

    def changed(self, loop):
        for node in ast.walk(loop):
            if isinstance(node, ast.Subscript) and isinstance(node.ctx, ast.Store) and isinstance(node.value, ast.Name):
                yield node.value.id
            if isinstance(node, ast.Call) and isinstance(node.func, ast.Attribute):
                if isinstance(node.func.value, ast.Name):
                    yield node.func.value.id

    def test_no_function_calls_itself(self):
        for path, _, tree in sources():
            calls = {}
            for node in tree.body:
                if isinstance(node, ast.FunctionDef):
                    calls[node.name] = {one.id for one in ast.walk(node) if isinstance(one, ast.Name)}
            for name in calls:
                reached = {name}
                while True:
                    beyond = set().union(*(calls[one] & set(calls) for one in reached))
                    self.assertNotIn(name, beyond, path)
                    if beyond <= reached:
                        break
                    reached |= beyond


if __name__ == "__main__":
    unittest.main()
