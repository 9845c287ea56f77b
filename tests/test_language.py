"""The package's own files keep to the small part of Python that the program is written in."""

import ast
import pathlib
import re
import unittest

PACKAGE = pathlib.Path(__file__).resolve().parent.parent / "versescan"

STATEMENTS = (
    ast.Module, ast.FunctionDef, ast.ClassDef, ast.Return, ast.Assign, ast.AugAssign, ast.For, ast.While, ast.If,
    ast.Raise, ast.Try, ast.ImportFrom, ast.Expr, ast.Pass, ast.Break, ast.Continue,
)
EXPRESSIONS = (
    ast.BoolOp, ast.BinOp, ast.UnaryOp, ast.Lambda, ast.IfExp, ast.Dict, ast.ListComp, ast.Compare, ast.Call,
    ast.Constant, ast.Attribute, ast.Subscript, ast.Name, ast.List, ast.Tuple, ast.Slice,
)
PYTHONS_OWN = (
    "len range enumerate zip min max sum abs sorted reversed int str bool list tuple dict isinstance ord repr any all "
    "divmod Exception ValueError TypeError KeyError IndexError LookupError ZeroDivisionError"
).split()
METHODS = (
    "append clear copy count endswith extend find get index insert items join keys pop remove replace reverse "
    "setdefault split startswith strip update values bit_length"
).split()
OUT_OF_USE = (
    "type typing typing_extensions enum Enum IntEnum StrEnum Flag IntFlag Generic Protocol ABC ABCMeta namedtuple "
    "NamedTuple TypedDict TYPE_CHECKING abstractmethod"
).split()
NOT_VALUES = "items keys values pop update append clear extend insert remove reverse setdefault sort args encode".split()
WALKED_AT_ONCE = ("zip", "enumerate", "reversed", "range")
WALKERS = "list tuple dict sorted sum any all enumerate zip min max".split()


def package_files():
    return sorted(PACKAGE.glob("*.py"))


def tree_of(path):
    return ast.parse(path.read_text(encoding="utf-8"))


def nodes_of(path, *kinds):
    return [node for node in ast.walk(tree_of(path)) if isinstance(node, kinds)]


class Language(unittest.TestCase):
    def assert_none(self, path, found):
        self.assertEqual(found, [], path.name)

    def test_only_plain_files_lie_in_the_package(self):
        names = [path.name for path in PACKAGE.iterdir() if path.name != "__pycache__"]
        self.assertIn("__init__.py", names)
        self.assertEqual([name for name in names if not re.fullmatch(r"__init__\.py|[a-z][a-z0-9_]*\.py", name)], [])

    def test_signs_and_sizes(self):
        for path in package_files():
            text = path.read_text(encoding="utf-8")
            self.assert_none(path, [sign for sign in text if sign != "\n" and not " " <= sign <= "~"])
            self.assertLessEqual(text.count("\n"), 400, path.name)
            self.assert_none(path, [row for row in text.split("\n") if len(row) > 120])
            defs = nodes_of(path, ast.FunctionDef)
            self.assert_none(path, [node.name for node in defs if node.end_lineno - node.lineno + 1 > 40])
            words = set(re.findall(r"[A-Za-z_0-9]+", text))
            self.assert_none(path, sorted(words & set(OUT_OF_USE)))
            self.assert_none(path, re.findall("dataclass|overload|contextmanager", text))

    def test_statements_and_expressions(self):
        for path in package_files():
            for node in nodes_of(path, ast.stmt, ast.expr):
                self.assertIsInstance(node, STATEMENTS + EXPRESSIONS, (path.name, node.lineno))
                if isinstance(node, (ast.For, ast.While)):
                    self.assertEqual(node.orelse, [], (path.name, node.lineno))
                if isinstance(node, ast.Assign):
                    self.assertEqual(len(node.targets), 1, (path.name, node.lineno))
                    self.assertNotIsInstance(node.targets[0], ast.Tuple, (path.name, node.lineno))
                if isinstance(node, ast.Try):
                    self.assertEqual(node.finalbody, [], (path.name, node.lineno))
                if isinstance(node, ast.ListComp):
                    self.assertEqual(len(node.generators), 1, (path.name, node.lineno))
                    self.assertLessEqual(len(node.generators[0].ifs), 1, (path.name, node.lineno))
                if isinstance(node, ast.Constant):
                    self.assertIsInstance(node.value, (int, str, type(None)), (path.name, node.lineno))
                if isinstance(node, ast.BinOp):
                    self.assertNotIsInstance(node.op, (ast.Div, ast.Pow, ast.MatMult), (path.name, node.lineno))
                if isinstance(node, ast.Compare) and isinstance(node.ops[0], (ast.Is, ast.IsNot)):
                    self.assertIn(node.comparators[0].value, (None, True, False), (path.name, node.lineno))

    def test_imports(self):
        drawn = {}
        for path in package_files():
            rows = nodes_of(path, ast.ImportFrom)
            self.assert_none(path, nodes_of(path, ast.Import))
            for row in rows:
                self.assertEqual(row.level, 0)
                self.assertRegex(row.module, r"^versescan\.[a-z]+$")
                origin = tree_of(PACKAGE / (row.module.split(".")[1] + ".py"))
                defined = [node.name for node in origin.body if isinstance(node, (ast.FunctionDef, ast.ClassDef))]
                defined += [node.targets[0].id for node in origin.body if isinstance(node, ast.Assign)]
                self.assert_none(path, [name.name for name in row.names if name.name not in defined or name.asname])
            drawn[path.stem] = [row.module.split(".")[1] for row in rows]
        self.assertEqual(drawn["__init__"], [])
        while drawn:
            ready = [name for name in drawn if not set(drawn[name]) & set(drawn)]
            self.assertNotEqual(ready, [], "files that draw from one another")
            drawn = {name: drawn[name] for name in drawn if name not in ready}

    def test_every_import_is_used(self):
        for path in package_files():
            used = [node.id for node in nodes_of(path, ast.Name)]
            for row in nodes_of(path, ast.ImportFrom):
                self.assert_none(path, [name.name for name in row.names if name.name not in used])

    def test_the_top_of_a_file(self):
        for path in package_files():
            body = tree_of(path).body
            self.assertIsNotNone(ast.get_docstring(tree_of(path)), path.name)
            kinds = (ast.ImportFrom, ast.FunctionDef, ast.ClassDef, ast.Assign)
            self.assert_none(path, [node.lineno for node in body[1:] if not isinstance(node, kinds)])
            names = [node.name for node in body if isinstance(node, (ast.FunctionDef, ast.ClassDef))]
            for node in body:
                if isinstance(node, ast.Assign):
                    names.append(node.targets[0].id)
                    members = node.value.elts if isinstance(node.value, ast.Tuple) else [node.value]
                    self.assert_none(path, [m for m in members if not isinstance(m, (ast.Constant, ast.Name))])
            self.assertEqual(len(names), len(set(names)), path.name)

    def test_functions_are_plain(self):
        for path in package_files():
            for node in nodes_of(path, ast.FunctionDef, ast.ClassDef):
                self.assertEqual(node.decorator_list, [])
            for node in nodes_of(path, ast.FunctionDef):
                told = node.args
                self.assertEqual((told.vararg, told.kwarg, told.kwonlyargs, told.posonlyargs), (None, None, [], []))
                self.assertIsNone(node.returns)
                self.assert_none(path, [name.arg for name in told.args if name.annotation])

    def test_names(self):
        own_names = dir(__builtins__) if not isinstance(__builtins__, dict) else list(__builtins__)
        for path in package_files():
            body = tree_of(path).body
            fixed = [name.name for row in body if isinstance(row, ast.ImportFrom) for name in row.names]
            fixed += [row.name for row in body if isinstance(row, ast.ClassDef)]
            bound = [node.id for node in nodes_of(path, ast.Name) if isinstance(node.ctx, ast.Store)]
            bound += [node.arg for node in nodes_of(path, ast.arg)]
            bound += [node.name for node in nodes_of(path, ast.ExceptHandler) if node.name]
            self.assert_none(path, [name for name in bound if name in fixed or name in own_names])
            self.assert_none(path, [name for name in bound if not re.fullmatch("[A-Za-z][A-Za-z0-9_]*", name)])
            defined = [node.name for node in body if isinstance(node, (ast.FunctionDef, ast.ClassDef))]
            known = set(bound + fixed + defined + PYTHONS_OWN)
            self.assert_none(path, [node.id for node in nodes_of(path, ast.Name) if node.id not in known])

    def test_methods_and_values(self):
        own_methods, own_values = set(), set()
        for path in package_files():
            for kind in nodes_of(path, ast.ClassDef):
                own_methods |= {node.name for node in kind.body if isinstance(node, ast.FunctionDef)}
            stored = [node for node in nodes_of(path, ast.Attribute) if isinstance(node.ctx, ast.Store)]
            own_values |= {node.attr for node in stored}
        self.assertEqual(own_methods & own_values, set())
        taken = {name for kind in (str, int, list, dict, set, bytes, tuple) for name in dir(kind)}
        self.assertEqual(own_values & taken - {"count", "index"}, set())
        self.assertEqual(own_methods & taken - {"__init__"}, set())
        self.assertEqual(own_values & set(NOT_VALUES), set())
        for path in package_files():
            for call in nodes_of(path, ast.Call):
                if isinstance(call.func, ast.Attribute):
                    self.assertIn(call.func.attr, METHODS + sorted(own_methods), (path.name, call.lineno))

    def test_walked_at_once(self):
        for path in package_files():
            walked = [node.iter for node in nodes_of(path, ast.For, ast.comprehension)]
            for call in nodes_of(path, ast.Call):
                if isinstance(call.func, ast.Name) and call.func.id in WALKERS:
                    walked += call.args[:1]
            places = [(node.lineno, node.col_offset) for node in walked]
            for call in nodes_of(path, ast.Call):
                name = call.func.id if isinstance(call.func, ast.Name) else call.func.attr
                if name in WALKED_AT_ONCE + ("items", "keys", "values"):
                    self.assertIn((call.lineno, call.col_offset), places, path.name)


if __name__ == "__main__":
    unittest.main()
