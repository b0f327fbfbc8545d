"""That the package keeps to the part of the language that it may use, as far as a test can see."""

import ast
import builtins
import pathlib
import re
import unittest

PACKAGE = pathlib.Path(__file__).resolve().parent.parent / "helifuel"

STATEMENTS = (
    ast.Module, ast.FunctionDef, ast.arguments, ast.arg, ast.ClassDef, ast.ImportFrom, ast.alias, ast.Assign,
    ast.AugAssign, ast.If, ast.While, ast.For, ast.Return, ast.Break, ast.Continue, ast.Pass, ast.Raise, ast.Expr,
)
EXPRESSIONS = (
    ast.Constant, ast.Name, ast.Attribute, ast.Subscript, ast.Slice, ast.Call, ast.List, ast.Tuple, ast.Dict,
    ast.ListComp, ast.comprehension, ast.BinOp, ast.UnaryOp, ast.BoolOp, ast.Compare, ast.IfExp, ast.expr_context,
    ast.operator, ast.unaryop, ast.boolop, ast.cmpop,
)
OWN_NAMES = (
    "len range enumerate zip min max sum abs sorted reversed int str bool list tuple dict isinstance any all divmod"
).split()
METHODS = "append extend get items keys values pop insert remove index copy".split()
NOWHERE = "register mro elements open input version_info with_traceback add_note".split()
WORDS = re.compile(
    r"\b(type|typing|typing_extensions|enum|Enum|IntEnum|StrEnum|Flag|IntFlag|Generic|Protocol|ABC|ABCMeta|namedtuple"
    r"|NamedTuple|TypedDict|TYPE_CHECKING|abstractmethod)\b|dataclass|overload|contextmanager"
)


def sources():
    return [(path, path.read_text("utf-8")) for path in sorted(PACKAGE.glob("*.py"))]


def nodes():
    return [(path.name, node) for path, text in sources() for node in ast.walk(ast.parse(text))]


class Form(unittest.TestCase):
    def test_nothing_but_plain_files(self):
        names = [path.name for path in PACKAGE.iterdir() if path.name != "__pycache__"]
        self.assertIn("__init__.py", names)
        for name in names:
            self.assertRegex(name, r"\A(__init__|[a-z][a-z0-9_]*)\.py\Z")
            self.assertNotIn(name[:-3], dir(builtins))

    def test_sizes_and_signs(self):
        for path, text in sources():
            rows = text.split("\n")
            self.assertLessEqual(len(rows), 400, path)
            self.assertRegex(text, r"\A[ -~\n]*\Z", path)
            self.assertLessEqual(max(len(row) for row in rows), 120, path)
            self.assertIsNone(WORDS.search(text), path)
        for name, node in nodes():
            if isinstance(node, ast.FunctionDef):
                self.assertLessEqual(node.end_lineno - node.lineno + 1, 40, (name, node.name))

    def test_statements_and_expressions(self):
        for name, node in nodes():
            self.assertIsInstance(node, STATEMENTS + EXPRESSIONS, (name, ast.dump(node)))
            if isinstance(node, ast.Constant):
                self.assertIn(type(node.value), (int, str, bool, type(None)), name)
            if isinstance(node, (ast.For, ast.While)):
                self.assertEqual(node.orelse, [], name)
            if isinstance(node, ast.Assign):
                self.assertEqual(len(node.targets), 1, name)
            if isinstance(node, ast.BinOp):
                self.assertNotIsInstance(node.op, (ast.Div, ast.MatMult, ast.Pow), name)
            if isinstance(node, ast.ListComp):
                self.assertTrue(len(node.generators) == 1 and len(node.generators[0].ifs) <= 1, name)
            if isinstance(node, (ast.FunctionDef, ast.ClassDef)):
                self.assertEqual(node.decorator_list, [], name)

    def test_a_text_by_itself_stands_at_the_top_of_a_file_alone(self):
        for path, text in sources():
            tree = ast.parse(text)
            self.assertIsNotNone(ast.get_docstring(tree), path)
            for node in ast.walk(tree):
                if isinstance(node, ast.Expr) and node is not tree.body[0]:
                    self.assertIsInstance(node.value, ast.Call, path)

    def test_imports(self):
        modules = [path.stem for path, text in sources()]
        drawn = {}
        for name, node in nodes():
            if isinstance(node, ast.ImportFrom):
                package, module = node.module.split(".")
                self.assertEqual((package, module in modules, node.level), ("helifuel", True, 0), name)
                drawn.setdefault(name[:-3], []).append(module)
                defined = (PACKAGE / (module + ".py")).read_text("utf-8")
                for alias in node.names:
                    self.assertRegex(defined, rf"(?m)^((def|class) {alias.name}\b|{alias.name} = )")
        while drawn:
            free = [name for name in drawn if not any(module in drawn for module in drawn[name])]
            self.assertNotEqual(free, [], drawn)
            drawn = {name: drawn[name] for name in drawn if name not in free}

    def test_names(self):
        for path, text in sources():
            tree = ast.parse(text)
            top = {alias.name for node in tree.body if isinstance(node, ast.ImportFrom) for alias in node.names}
            top |= {node.name for node in tree.body if isinstance(node, ast.ClassDef)}
            own = {node.id for node in ast.walk(tree) if isinstance(node, ast.Name) and isinstance(node.ctx, ast.Store)}
            own |= {node.arg for node in ast.walk(tree) if isinstance(node, ast.arg)}
            self.assertEqual(own & (top | set(dir(builtins))), set(), path)
            defined = own | top | {node.name for node in ast.walk(tree) if isinstance(node, ast.FunctionDef)}
            for name in defined - {"__init__"}:
                self.assertRegex(name, r"\A[A-Za-z][A-Za-z0-9_]*\Z", path)
            used = {node.id for node in ast.walk(tree) if isinstance(node, ast.Name)}
            self.assertEqual(used - defined - set(OWN_NAMES), set(), path)
            self.assertEqual((used | defined) & set(NOWHERE), set(), path)
            bound = [target.id for node in tree.body if isinstance(node, ast.Assign) for target in node.targets]
            self.assertEqual(len(bound), len(set(bound)), path)

    def test_methods_and_values(self):
        values = {node.attr for name, node in nodes() if isinstance(node, ast.Attribute)}
        called = {
            node.func.attr for name, node in nodes()
            if isinstance(node, ast.Call) and isinstance(node.func, ast.Attribute)
        }
        self.assertLessEqual(called, set(METHODS))
        kinds = (str, int, list, dict, set, bytes, tuple)
        for value in values - called:
            self.assertFalse(any(hasattr(kind, value) for kind in kinds), value)
            self.assertNotIn(value, NOWHERE + ["args"])


if __name__ == "__main__":
    unittest.main()
