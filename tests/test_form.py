"""The package keeps to the small part of Python that it is written in."""

import ast
import builtins
import re
import unittest
from pathlib import Path

PACKAGE = Path(__file__).resolve().parent.parent / "aheadloads"

FORBIDDEN_NODES = (
    ast.With, ast.Delete, ast.Global, ast.Nonlocal, ast.Assert, ast.Yield, ast.YieldFrom,
    ast.AsyncFunctionDef, ast.AsyncFor, ast.AsyncWith, ast.Await, ast.Match, ast.Import,
    ast.SetComp, ast.DictComp, ast.GeneratorExp, ast.NamedExpr, ast.Starred, ast.Div, ast.AnnAssign,
)
OWN_NAMES = set(
    "len range enumerate zip min max sum abs sorted reversed int str bool list tuple dict set "
    "frozenset isinstance ord repr any all divmod Exception ValueError TypeError KeyError "
    "IndexError LookupError ZeroDivisionError ArithmeticError OverflowError RuntimeError "
    "NotImplementedError AttributeError StopIteration".split()
)
METHODS = set(
    "append clear copy count endswith extend find get index insert isalnum isalpha isdigit "
    "islower isspace isupper items join keys ljust lower lstrip partition pop remove replace "
    "reverse rfind rjust rpartition rsplit rstrip setdefault split splitlines startswith strip "
    "update upper values zfill bit_length".split()
)
DUNDERS = {"__init__", "__eq__", "__repr__", "__str__", "__len__"}
UNUSED_NAMES = {"register", "mro", "elements", "open", "input", "version_info", "with_traceback",
                "add_note", "format", "format_map"}
UNUSED_WORDS = re.compile(
    r"\b(type|typing|typing_extensions|enum|Enum|IntEnum|StrEnum|Flag|IntFlag|Generic|Protocol|ABC"
    r"|ABCMeta|namedtuple|NamedTuple|TypedDict|TYPE_CHECKING|abstractmethod)\b"
    r"|dataclass|overload|contextmanager"
)


def files():
    return sorted(PACKAGE.rglob("*.py"))


def nodes(path):
    return list(ast.walk(ast.parse(path.read_text(encoding="ascii"))))


def names_bound(node):
    if isinstance(node, (ast.FunctionDef, ast.ClassDef)):
        return [node.name]
    if isinstance(node, ast.Name):
        return [node.id]
    if isinstance(node, ast.Attribute):
        return [node.attr]
    if isinstance(node, ast.arg):
        return [node.arg]
    return []


def names_at_top(node):
    if isinstance(node, ast.Assign):
        return [target.id for target in node.targets]
    if isinstance(node, ast.ImportFrom):
        return [name.name for name in node.names]
    return names_bound(node)


def is_plain(value, defined):
    """A plain value, or a tuple or dict of these and of functions that are defined above."""
    if isinstance(value, ast.Constant):
        return True
    if isinstance(value, ast.UnaryOp):
        return isinstance(value.operand, ast.Constant)
    if isinstance(value, ast.Name):
        return value.id in defined
    if isinstance(value, (ast.Tuple, ast.List)):
        return all(is_plain(part, defined) for part in value.elts)
    if isinstance(value, ast.Dict):
        return all(is_plain(part, defined) for part in value.keys + value.values)
    return False


def drawn_from(path):
    return {node.module.split(".")[1] for node in nodes(path) if isinstance(node, ast.ImportFrom)}


class Form(unittest.TestCase):
    def each_node(self):
        for path in files():
            for node in nodes(path):
                yield f"{path.name}:{getattr(node, 'lineno', 0)}", node

    def test_files(self):
        self.assertIn(PACKAGE / "__init__.py", files())
        for path in PACKAGE.rglob("*"):
            if "__pycache__" not in path.parts and path.is_file():
                self.assertRegex(path.name, r"^[a-z0-9_]+\.py$")

    def test_signs_and_sizes(self):
        for path in files():
            text = path.read_text(encoding="utf-8")
            self.assertRegex(text, r"\A[ -~\n]*\Z", path.name)
            lines = text.splitlines()
            self.assertLessEqual(len(lines), 400, path.name)
            for line in lines:
                self.assertLessEqual(len(line), 120, path.name)

    def test_words_that_stand_nowhere(self):
        for path in files():
            self.assertIsNone(UNUSED_WORDS.search(path.read_text(encoding="ascii")), path.name)

    def test_functions(self):
        for where, node in self.each_node():
            if isinstance(node, ast.FunctionDef):
                self.assertLessEqual(node.end_lineno - node.lineno + 1, 40, where)
                self.assertEqual(node.decorator_list, [], where)
                self.assertIsNone(node.args.vararg, where)
                self.assertIsNone(node.args.kwarg, where)
                self.assertEqual(node.args.kwonlyargs, [], where)

    def test_statements_and_expressions(self):
        for where, node in self.each_node():
            self.assertNotIsInstance(node, FORBIDDEN_NODES, where)
            if isinstance(node, (ast.For, ast.While)):
                self.assertEqual(node.orelse, [], where)
            if isinstance(node, ast.Try):
                self.assertEqual(node.finalbody, [], where)
            if isinstance(node, ast.Assign):
                self.assertEqual(len(node.targets), 1, where)
            if isinstance(node, ast.Constant):
                self.assertNotIsInstance(node.value, (float, bytes, complex), where)

    def test_imports(self):
        for path in files():
            for node in nodes(path):
                if isinstance(node, ast.ImportFrom):
                    self.assertRegex(node.module, r"^aheadloads\.\w+$", path.name)
                    self.assertEqual(node.level, 0, path.name)
                    self.assertNotIn("*", [name.name for name in node.names], path.name)

    def test_the_top_of_files(self):
        for path in files():
            bound = []
            for number, node in enumerate(ast.parse(path.read_text(encoding="ascii")).body):
                where = f"{path.name}:{node.lineno}"
                if number == 0:
                    self.assertIsInstance(node.value, ast.Constant, where)
                elif isinstance(node, ast.Assign):
                    self.assertIsInstance(node.targets[0], ast.Name, where)
                    self.assertTrue(is_plain(node.value, bound), where)
                else:
                    self.assertIsInstance(node, (ast.ImportFrom, ast.FunctionDef, ast.ClassDef), where)
                names = names_at_top(node)
                self.assertEqual(set(names) & set(bound), set(), where)
                bound += names

    def test_no_local_is_called_like_an_import_or_a_class(self):
        for path in files():
            taken = set()
            for node in ast.parse(path.read_text(encoding="ascii")).body:
                if isinstance(node, (ast.ImportFrom, ast.ClassDef)):
                    taken.update(names_at_top(node))
            for node in nodes(path):
                if isinstance(node, ast.arg):
                    self.assertNotIn(node.arg, taken, f"{path.name}:{node.lineno}")
                if isinstance(node, ast.Name) and isinstance(node.ctx, ast.Store):
                    self.assertNotIn(node.id, taken, f"{path.name}:{node.lineno}")

    def test_imports_are_drawn_from_where_the_name_is_defined(self):
        for path in files():
            for node in nodes(path):
                if isinstance(node, ast.ImportFrom):
                    source = PACKAGE / (node.module.split(".")[1] + ".py")
                    defined = []
                    for other in ast.parse(source.read_text(encoding="ascii")).body:
                        if not isinstance(other, ast.ImportFrom):
                            defined += names_at_top(other)
                    for name in node.names:
                        self.assertIn(name.name, defined, f"{path.name}:{node.lineno}")
                        self.assertIsNone(name.asname, f"{path.name}:{node.lineno}")

    def test_no_two_files_draw_from_one_another(self):
        left = {path.stem: drawn_from(path) for path in files()}
        while left:
            free = [name for name, sources in left.items() if not sources & set(left)]
            self.assertNotEqual(free, [], str(sorted(left)))
            for name in free:
                left.pop(name)

    def test_errors(self):
        for where, node in self.each_node():
            if isinstance(node, ast.ExceptHandler):
                self.assertIsInstance(node.type, ast.Name, where)
                self.assertNotIn(node.type.id, ("Exception", "TypeError"), where)
            if isinstance(node, ast.Raise):
                self.assertIsInstance(node.exc, ast.Call, where)

    def test_is_stands_beside_none_true_and_false_alone(self):
        for where, node in self.each_node():
            if isinstance(node, ast.Compare) and isinstance(node.ops[0], (ast.Is, ast.IsNot)):
                self.assertIsInstance(node.comparators[0], ast.Constant, where)
                self.assertIn(node.comparators[0].value, (None, True, False), where)

    def test_names(self):
        for where, node in self.each_node():
            for name in names_bound(node):
                self.assertNotIn(name, UNUSED_NAMES, where)
                if name not in DUNDERS:
                    self.assertRegex(name, r"^[A-Za-z][A-Za-z0-9_]*$", where)
            if isinstance(node, ast.Name) and hasattr(builtins, node.id):
                self.assertIn(node.id, OWN_NAMES, where)
                self.assertIsInstance(node.ctx, ast.Load, where)
            if isinstance(node, ast.arg):
                self.assertFalse(hasattr(builtins, node.arg), where)

    def test_methods_that_are_called(self):
        own = {node.name for where, node in self.each_node() if isinstance(node, ast.FunctionDef)}
        for where, node in self.each_node():
            if isinstance(node, ast.Call) and isinstance(node.func, ast.Attribute):
                self.assertIn(node.func.attr, METHODS | own, where)

    def test_no_name_is_a_method_and_a_value(self):
        methods = set()
        stored = set()
        for where, node in self.each_node():
            if isinstance(node, ast.ClassDef):
                methods.update(part.name for part in node.body if isinstance(part, ast.FunctionDef))
            if isinstance(node, ast.Attribute) and isinstance(node.ctx, ast.Store):
                stored.add(node.attr)
        self.assertEqual(methods & stored, set())


if __name__ == "__main__":
    unittest.main()
