"""The package's own files keep to the small part of Python they are written in."""

import ast
import builtins
import pathlib
import re
import unittest

PACKAGE = pathlib.Path(__file__).resolve().parent.parent / "versefeet"

STATEMENTS = (
    ast.Assign, ast.AugAssign, ast.If, ast.While, ast.For, ast.Return, ast.Break, ast.Continue, ast.Pass,
    ast.Expr, ast.FunctionDef, ast.ClassDef, ast.ImportFrom)
EXPRESSIONS = (
    ast.Constant, ast.Name, ast.List, ast.Tuple, ast.Dict, ast.BinOp, ast.UnaryOp, ast.BoolOp, ast.Compare,
    ast.IfExp, ast.Call, ast.Attribute, ast.Subscript, ast.Slice, ast.ListComp, ast.Lambda)
OPERATORS = (
    ast.Add, ast.Sub, ast.Mult, ast.FloorDiv, ast.Mod, ast.BitAnd, ast.BitOr, ast.BitXor, ast.LShift,
    ast.RShift, ast.Invert, ast.Not, ast.USub)
OWN_NAMES = set(
    "len range enumerate zip min max sum abs sorted reversed int str bool list tuple dict set frozenset "
    "isinstance ord repr any all divmod".split())
METHODS = set(
    "append clear copy count endswith extend find get index insert isalnum isalpha isdigit islower isspace "
    "isupper items join keys ljust lower lstrip partition pop remove replace reverse rfind rjust rpartition "
    "rsplit rstrip setdefault split splitlines startswith strip update upper values zfill bit_length".split())
WALKED = {"range", "enumerate", "zip", "reversed", "items", "keys", "values"}
WALKERS = {"list", "tuple", "dict", "sorted", "sum", "any", "all", "enumerate", "zip", "min", "max"}
UNUSED_NAMES = set(
    "register mro elements open input version_info with_traceback add_note attrgetter breakpoint builtins compile "
    "copyright credits delattr dir eval exec exit gc getattr globals hasattr help id importlib license locals "
    "methodcaller os quit setattr super type vars sys chr format format_map".split())
UNUSED_WORDS = (
    r"\b(type|typing|typing_extensions|enum|Enum|IntEnum|StrEnum|Flag|IntFlag|Generic|Protocol|ABC|ABCMeta|"
    r"namedtuple|NamedTuple|TypedDict|TYPE_CHECKING|abstractmethod)\b|dataclass|overload|contextmanager")
TAKEN_NAMES = {
    name for kind in (str, int, list, tuple, dict, set, frozenset, bytes, bytearray, float) for name in dir(kind)}


class Source:
    def __init__(self, path):
        self.name = path.stem
        self.text = path.read_text(encoding="ascii")
        self.tree = ast.parse(self.text)
        self.nodes = list(ast.walk(self.tree))
        self.parents = {child: node for node in self.nodes for child in ast.iter_child_nodes(node)}

    def found(self, *kinds):
        return [node for node in self.nodes if isinstance(node, kinds)]

    def top_names(self):
        names = []
        for node in self.tree.body:
            if isinstance(node, (ast.FunctionDef, ast.ClassDef)):
                names.append(node.name)
            if isinstance(node, ast.Assign):
                names.append(node.targets[0].id)
        return names

    def imports(self):
        return [node for node in self.tree.body if isinstance(node, ast.ImportFrom)]

    def imported_names(self):
        return [alias.name for node in self.imports() for alias in node.names]

    def bound_names(self):
        """Parameters and locals."""
        names = [node.arg for node in self.found(ast.arg)]
        for node in self.found(ast.Name):
            if isinstance(node.ctx, ast.Store) and not self.is_at_top(node):
                names.append(node.id)
        return names

    def is_at_top(self, node):
        return isinstance(self.parents.get(node), ast.Assign) and self.parents[node] in self.tree.body


SOURCES = [Source(path) for path in sorted(PACKAGE.glob("*.py"))]


def called_name(node):
    if not isinstance(node, ast.Call):
        return None
    return node.func.id if isinstance(node.func, ast.Name) else node.func.attr


class LanguageTest(unittest.TestCase):
    def each(self, *kinds):
        for source in SOURCES:
            for node in source.found(*kinds):
                with self.subTest(file=source.name, line=getattr(node, "lineno", 0)):
                    yield source, node

    def test_files(self):
        names = [path.name for path in PACKAGE.iterdir() if path.name != "__pycache__"]
        self.assertIn("__init__.py", names)
        for name in names:
            self.assertRegex(name, r"^[a-z0-9_]+\.py$")
            self.assertNotIn(name[:-3], dir(builtins))

    def test_signs_and_sizes(self):
        for source in SOURCES:
            self.assertRegex(source.text, r"^[ -~\n]*$")
            self.assertIsNone(re.search(UNUSED_WORDS, source.text), source.name)
            lines = source.text.split("\n")
            self.assertLessEqual(len(lines), 400)
            self.assertLessEqual(max(len(line) for line in lines), 120)
        for source, node in self.each(ast.FunctionDef):
            self.assertLessEqual(node.end_lineno - node.lineno + 1, 40)

    def test_imports(self):
        files = {source.name: source for source in SOURCES}
        drawn = {source.name: [node.module.split(".")[1] for node in source.imports()] for source in SOURCES}
        for source, node in self.each(ast.ImportFrom):
            self.assertEqual(node.level, 0)
            self.assertIn(node, source.tree.body)
            self.assertEqual(node.module.split(".")[0], "versefeet")
            for alias in node.names:
                self.assertIsNone(alias.asname)
                self.assertIn(alias.name, files[node.module.split(".")[1]].top_names())
        self.assertEqual(drawn["__init__"], [])
        while drawn:
            free = [name for name in drawn if not any(other in drawn for other in drawn[name])]
            self.assertTrue(free, "files draw from one another")
            drawn = {name: others for name, others in drawn.items() if name not in free}

    def test_tops_of_files(self):
        for source in SOURCES:
            self.assertTrue(ast.get_docstring(source.tree), source.name)
            for node in source.tree.body[1:]:
                self.assertIsInstance(node, (ast.ImportFrom, ast.FunctionDef, ast.ClassDef, ast.Assign))
                if isinstance(node, ast.Assign):
                    ast.literal_eval(node.value)
            names = source.top_names() + source.imported_names()
            self.assertEqual(len(names), len(set(names)))

    def test_statements_and_expressions(self):
        for source, node in self.each(ast.stmt):
            self.assertIsInstance(node, STATEMENTS)
            if isinstance(node, ast.Expr) and node is not source.tree.body[0]:
                self.assertIsInstance(node.value, ast.Call)
            if isinstance(node, ast.Assign):
                self.assertEqual(len(node.targets), 1)
                self.assertNotIsInstance(node.targets[0], (ast.Tuple, ast.List))
            if isinstance(node, (ast.For, ast.While)):
                self.assertEqual(node.orelse, [])
        for source, node in self.each(ast.expr):
            self.assertIsInstance(node, EXPRESSIONS)
        for source, node in self.each(ast.operator, ast.unaryop):
            self.assertIsInstance(node, OPERATORS)
        for source, node in self.each(ast.Constant):
            self.assertIn(type(node.value), (int, str, bool, type(None)))
            if isinstance(node.value, str):
                self.assertNotIn("%", node.value)
        for source, node in self.each(ast.ListComp):
            self.assertEqual(len(node.generators), 1)
            self.assertLessEqual(len(node.generators[0].ifs), 1)
        for source, node in self.each(ast.Compare):
            if any(isinstance(operator, (ast.Is, ast.IsNot)) for operator in node.ops):
                self.assertIn(node.comparators[-1].value, (None, True, False))

    def test_functions_and_classes(self):
        for source, node in self.each(ast.FunctionDef):
            self.assertEqual(node.decorator_list, [])
            self.assertIsNone(node.returns)
            self.assertIsNone(node.args.vararg or node.args.kwarg)
            self.assertEqual(node.args.kwonlyargs + node.args.posonlyargs, [])
        for source, node in self.each(ast.arg):
            self.assertIsNone(node.annotation)
        for source, node in self.each(ast.ClassDef):
            self.assertIn(node, source.tree.body)
            self.assertEqual(node.decorator_list + node.bases + node.keywords, [])
            for part in node.body:
                self.assertIsInstance(part, ast.FunctionDef)

    def test_names(self):
        for source in SOURCES:
            known = set(source.top_names() + source.imported_names() + source.bound_names()) | OWN_NAMES
            for node in source.found(ast.Name):
                self.assertIn(node.id, known, source.name)
            for name in source.bound_names():
                self.assertNotIn(name, dir(builtins), source.name)
                self.assertNotIn(name, source.imported_names(), source.name)
                self.assertNotIn(name, [node.name for node in source.found(ast.ClassDef)], source.name)
            attributes = [node.attr for node in source.found(ast.Attribute)]
            for name in list(known) + attributes:
                self.assertRegex(name, r"^[A-Za-z][A-Za-z0-9_]*$")
                self.assertNotIn(name, UNUSED_NAMES)

    def test_methods_and_values(self):
        methods = {
            part.name for source in SOURCES for node in source.found(ast.ClassDef) for part in node.body
            if part.name != "__init__"}
        values = {
            node.attr for source in SOURCES for node in source.found(ast.Attribute)
            if isinstance(node.ctx, ast.Store)}
        self.assertEqual(methods & values, set())
        self.assertEqual((methods | values) & TAKEN_NAMES, set())
        for source, node in self.each(ast.Attribute):
            if isinstance(source.parents[node], ast.Call) and source.parents[node].func is node:
                self.assertIn(node.attr, methods | METHODS)
            else:
                self.assertIn(node.attr, values)
            if isinstance(node.ctx, ast.Store):
                self.assertIsInstance(node.value, ast.Name)

    def test_calls(self):
        keywords = {"sorted": {"key", "reverse"}, "min": {"key", "default"}, "max": {"key", "default"}}
        for source, node in self.each(ast.Call):
            for keyword in node.keywords:
                self.assertIn(keyword.arg, keywords.get(called_name(node), set()))
            parent = source.parents[node]
            if called_name(node) in WALKED:
                walked = isinstance(parent, (ast.For, ast.comprehension)) and parent.iter is node
                self.assertTrue(walked or called_name(parent) in WALKERS)
            if called_name(node) == "set":
                self.assertIn(called_name(parent), ("sorted", "len"))

    def test_tables_at_the_top_are_tuples_or_texts(self):
        for source in SOURCES:
            for node in source.tree.body:
                if isinstance(node, ast.Assign):
                    self.assertNotIsInstance(node.value, (ast.List, ast.Dict))


if __name__ == "__main__":
    unittest.main()
