"""The package's files against the rules of LANGUAGE.md that a look at the code can tell."""

import ast
import builtins
import re
import unittest
from pathlib import Path

PACKAGE = Path(__file__).resolve().parent.parent / "tidemachine"

STATEMENTS = (
    ast.Assign, ast.AugAssign, ast.If, ast.While, ast.For, ast.Return, ast.Break, ast.Continue, ast.Pass, ast.Raise,
    ast.Try, ast.Expr, ast.FunctionDef, ast.ClassDef, ast.ImportFrom,
)
EXPRESSIONS = (
    ast.Constant, ast.Name, ast.List, ast.Tuple, ast.Dict, ast.Set, ast.BinOp, ast.UnaryOp, ast.BoolOp, ast.Compare,
    ast.IfExp, ast.Call, ast.Attribute, ast.Subscript, ast.Slice, ast.ListComp, ast.JoinedStr, ast.FormattedValue,
    ast.Lambda,
)
ALLOWED = (
    "len range enumerate zip min max sum abs sorted reversed int str bool list tuple dict set frozenset isinstance ord "
    "repr any all divmod Exception ValueError TypeError KeyError IndexError LookupError ZeroDivisionError "
    "ArithmeticError OverflowError RuntimeError NotImplementedError AttributeError StopIteration"
).split()
METHODS = (
    "append clear copy count endswith extend find get index insert isalnum isalpha isdigit islower isspace isupper "
    "items join keys ljust lower lstrip partition pop remove replace reverse rfind rjust rpartition rsplit rstrip setdefault "
    "split splitlines startswith strip update upper values zfill bit_length"
).split()
VALUES = "count index title find get join lower upper split strip copy add".split()
BANNED_WORDS = (
    "type typing typing_extensions enum Enum IntEnum StrEnum Flag IntFlag Generic Protocol ABC ABCMeta namedtuple "
    "NamedTuple TypedDict TYPE_CHECKING abstractmethod"
).split()
BANNED_PARTS = ("dataclass", "overload", "contextmanager")
BANNED_NAMES = (
    "register mro elements open input version_info with_traceback add_note attrgetter breakpoint builtins compile "
    "copyright credits delattr dir eval exec exit gc getattr globals hasattr help id importlib license locals "
    "methodcaller os quit setattr super type vars sys chr print format format_map"
).split()
SPECIAL = ("__init__", "__eq__", "__repr__", "__str__", "__len__")


def files():
    return sorted(PACKAGE.rglob("*.py"))


def nodes(path, *kinds):
    return [node for node in ast.walk(ast.parse(path.read_text())) if isinstance(node, kinds)]


def all_nodes(*kinds):
    return [(path.name, node) for path in files() for node in nodes(path, *kinds)]


def is_plain(node, functions):
    if isinstance(node, ast.UnaryOp):
        return isinstance(node.op, ast.USub) and isinstance(node.operand, ast.Constant)
    if isinstance(node, (ast.List, ast.Tuple)):
        return all(is_plain(part, functions) for part in node.elts)
    if isinstance(node, ast.Dict):
        return all(is_plain(part, functions) for part in node.keys + node.values)
    if isinstance(node, ast.Name):
        return node.id in functions
    return isinstance(node, ast.Constant) and isinstance(node.value, (int, str, type(None)))


def own_values():
    return {node.attr for _, node in all_nodes(ast.Attribute) if isinstance(node.ctx, ast.Store)}


def own_methods():
    return {part.name for _, node in all_nodes(ast.ClassDef) for part in node.body if isinstance(part, ast.FunctionDef)}


class Files(unittest.TestCase):
    def test_only_python_files(self):
        for path in PACKAGE.rglob("*"):
            if path.is_file() and path.parent.name != "__pycache__":
                self.assertRegex(path.name, r"\A([a-z0-9][a-z0-9_]*|__init__|__main__)\.py\Z")
                self.assertFalse(path.stem in dir(builtins), path)

    def test_signs_and_sizes(self):
        for path in files():
            text = path.read_bytes()
            self.assertFalse([byte for byte in text if not (byte == 10 or 32 <= byte <= 126)], path)
            lines = text.decode().split("\n")
            self.assertLessEqual(len(lines), 400, path)
            self.assertLessEqual(max(len(line) for line in lines), 120, path)

    def test_words(self):
        for path in files():
            words = re.findall(r"[A-Za-z0-9_]+", path.read_text())
            self.assertFalse(set(words) & set(BANNED_WORDS), path)
            self.assertFalse([word for word in words if any(part in word for part in BANNED_PARTS)], path)

    def test_functions_are_short(self):
        for name, node in all_nodes(ast.FunctionDef):
            self.assertLessEqual(node.end_lineno - node.lineno + 1, 40, (name, node.name))


class Forms(unittest.TestCase):
    def test_imports(self):
        for path in files():
            self.assertFalse(nodes(path, ast.Import), path)
            for node in nodes(path, ast.ImportFrom):
                self.assertEqual(node.col_offset, 0)
                self.assertEqual(node.level, 0)
                source = PACKAGE.parent / (node.module.replace(".", "/") + ".py")
                self.assertTrue(source.is_file(), node.module)
                self.assertEqual(node.module.partition(".")[0], "tidemachine")
                defined = {target.id for one in ast.parse(source.read_text()).body if isinstance(one, ast.Assign)
                           for target in one.targets}
                defined |= {one.name for one in ast.parse(source.read_text()).body
                            if isinstance(one, (ast.FunctionDef, ast.ClassDef))}
                for alias in node.names:
                    self.assertIn(alias.name, defined)
                    self.assertIsNone(alias.asname)

    def test_no_ring_of_imports(self):
        drawn = {}
        for path in files():
            drawn[path.stem] = [node.module.rpartition(".")[2] for node in nodes(path, ast.ImportFrom)]
        while drawn:
            free = [name for name in drawn if not any(other in drawn for other in drawn[name])]
            self.assertTrue(free, drawn)
            for name in free:
                del drawn[name]

    def test_top_of_a_module(self):
        for path in files():
            functions, bound = [], []
            for number, node in enumerate(ast.parse(path.read_text()).body):
                if isinstance(node, ast.Assign):
                    self.assertTrue(is_plain(node.value, functions), (path, node.lineno))
                    bound.append(node.targets[0].id)
                elif isinstance(node, ast.Expr):
                    self.assertEqual(number, 0, (path, node.lineno))
                else:
                    self.assertIsInstance(node, (ast.ImportFrom, ast.FunctionDef, ast.ClassDef), path)
                    if not isinstance(node, ast.ImportFrom):
                        bound.append(node.name)
                        functions.append(node.name)
            self.assertEqual(len(bound), len(set(bound)), path)

    def test_statements_and_expressions(self):
        for name, node in all_nodes(ast.stmt):
            self.assertIsInstance(node, STATEMENTS, (name, node.lineno))
        for name, node in all_nodes(ast.expr):
            self.assertIsInstance(node, EXPRESSIONS, (name, node.lineno))
        for name, node in all_nodes(ast.Constant):
            self.assertIsInstance(node.value, (int, str, type(None)), (name, node.lineno))
        for name, node in all_nodes(ast.BinOp, ast.AugAssign):
            self.assertNotIsInstance(node.op, (ast.Div, ast.MatMult, ast.Pow), (name, node.lineno))
        for name, node in all_nodes(ast.Assign):
            self.assertEqual(len(node.targets), 1, (name, node.lineno))
            self.assertNotIsInstance(node.targets[0], (ast.Tuple, ast.List), (name, node.lineno))
        for name, node in all_nodes(ast.For, ast.While):
            self.assertFalse(node.orelse, (name, node.lineno))
        for name, node in all_nodes(ast.Try):
            self.assertFalse(node.finalbody, (name, node.lineno))
        for name, node in all_nodes(ast.ListComp):
            self.assertEqual(len(node.generators), 1, (name, node.lineno))
            self.assertLessEqual(len(node.generators[0].ifs), 1, (name, node.lineno))

    def test_statements_that_are_expressions_are_calls(self):
        for name, node in all_nodes(ast.Expr):
            # A module's own words are its first line.
            self.assertTrue(isinstance(node.value, ast.Call) or node.lineno == 1, (name, node.lineno))

    def test_f_strings(self):
        for name, node in all_nodes(ast.FormattedValue):
            self.assertIsInstance(node.value, ast.Name, (name, node.lineno))
            self.assertIsNone(node.format_spec, (name, node.lineno))

    def test_no_sign_of_the_hundredth_in_texts(self):
        for name, node in all_nodes(ast.Constant):
            self.assertFalse(isinstance(node.value, str) and "%" in node.value, (name, node.lineno))

    def test_is_only_beside_none_true_and_false(self):
        for name, node in all_nodes(ast.Compare):
            for sign, other in zip(node.ops, node.comparators):
                if isinstance(sign, (ast.Is, ast.IsNot)):
                    self.assertTrue(isinstance(other, ast.Constant) and other.value in (None, True, False), name)

    def test_errors(self):
        taken = {node.name for _, node in all_nodes(ast.ClassDef)} | {"KeyError", "ZeroDivisionError", "StopIteration"}
        for name, node in all_nodes(ast.ExceptHandler):
            self.assertIn(node.type.id, taken, (name, node.lineno))
        for name, node in all_nodes(ast.Raise):
            self.assertIsInstance(node.exc, ast.Call, (name, node.lineno))

    def test_definitions(self):
        for name, node in all_nodes(ast.FunctionDef, ast.ClassDef):
            self.assertFalse(node.decorator_list, (name, node.name))
        for name, node in all_nodes(ast.FunctionDef):
            given = node.args
            self.assertFalse(given.vararg or given.kwarg or given.kwonlyargs or given.posonlyargs, (name, node.name))
            self.assertFalse(node.returns or [one for one in given.args if one.annotation], (name, node.name))
        for name, node in all_nodes(ast.ClassDef):
            self.assertLessEqual(len(node.bases), 1, (name, node.name))
            for part in node.body:
                self.assertIsInstance(part, ast.FunctionDef, (name, node.name))


class Names(unittest.TestCase):
    def test_plain_names(self):
        for name, node in all_nodes(ast.Name, ast.arg, ast.Attribute, ast.FunctionDef, ast.ClassDef):
            for field in ("id", "arg", "attr", "name"):
                written = getattr(node, field, None)
                if isinstance(written, str) and written not in SPECIAL:
                    self.assertRegex(written, r"\A[A-Za-z][A-Za-z0-9_]*\Z", (name, node.lineno))
                    self.assertNotIn(written, BANNED_NAMES, (name, node.lineno))

    def test_python_s_own_names(self):
        for name, node in all_nodes(ast.Name):
            if hasattr(builtins, node.id):
                self.assertIn(node.id, ALLOWED, (name, node.lineno))
                self.assertIsInstance(node.ctx, ast.Load, (name, node.lineno))
        for name, node in all_nodes(ast.arg):
            self.assertFalse(hasattr(builtins, node.arg), (name, node.lineno))
        for name, node in all_nodes(ast.FunctionDef, ast.ClassDef):
            self.assertFalse(hasattr(builtins, node.name) and node.name not in SPECIAL, (name, node.name))

    def test_no_local_is_called_like_a_class_or_an_import(self):
        for path in files():
            taken = {alias.name for node in nodes(path, ast.ImportFrom) for alias in node.names}
            taken |= {node.name for node in nodes(path, ast.ClassDef)}
            local = {node.id for node in nodes(path, ast.Name) if isinstance(node.ctx, ast.Store)}
            local |= {node.arg for node in nodes(path, ast.arg)}
            local |= {node.name for node in nodes(path, ast.ExceptHandler) if node.name}
            self.assertFalse(taken & local, path)

    def test_methods_and_values(self):
        own = own_methods()
        values = own_values()
        self.assertFalse(own & values)
        python_s = {name for kind in (str, int, list, dict, set, bytes, tuple) for name in dir(kind)}
        self.assertFalse((values - set(VALUES)) & python_s)
        self.assertFalse((own - set(SPECIAL) - set(METHODS) - {"add", "discard"}) & python_s)
        for name, node in all_nodes(ast.Attribute):
            self.assertIn(node.attr, own | values | set(METHODS), (name, node.lineno))


if __name__ == "__main__":
    unittest.main()
