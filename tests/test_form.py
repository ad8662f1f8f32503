"""The form of the package's files: what of the language rules can be seen by walking the code."""

import ast
import builtins
import pathlib
import re
import unittest

PACKAGE = pathlib.Path(__file__).resolve().parent.parent / "talkwatch"
FILES = sorted(path for path in PACKAGE.rglob("*") if path.is_file() and "__pycache__" not in path.parts)

STATEMENTS = (
    ast.Assign, ast.AugAssign, ast.If, ast.While, ast.For, ast.Return, ast.Break, ast.Continue, ast.Pass,
    ast.Raise, ast.Try, ast.Expr, ast.FunctionDef, ast.ClassDef, ast.ImportFrom,
)
REFUSED = (
    ast.NamedExpr, ast.Starred, ast.SetComp, ast.DictComp, ast.GeneratorExp, ast.Div, ast.Await, ast.Yield,
    ast.YieldFrom,
)
BUILT_IN = (
    "len range enumerate zip min max sum abs sorted reversed int str bool list tuple dict set frozenset isinstance "
    "ord repr any all divmod Exception ValueError TypeError KeyError IndexError LookupError ZeroDivisionError "
    "ArithmeticError OverflowError RuntimeError NotImplementedError AttributeError StopIteration"
).split()
METHODS = (
    "append clear copy count endswith extend find get index insert isalnum isalpha isdigit islower isspace isupper "
    "items join keys ljust lower lstrip partition pop remove replace reverse rfind rjust rpartition rsplit rstrip "
    "setdefault split splitlines startswith strip update upper values zfill bit_length"
).split()
WORDS = (
    r"\b(type|typing|typing_extensions|enum|Enum|IntEnum|StrEnum|Flag|IntFlag|Generic|Protocol|ABC|ABCMeta|"
    r"namedtuple|NamedTuple|TypedDict|TYPE_CHECKING|abstractmethod)\b|dataclass|overload|contextmanager"
)
UNUSED_NAMES = (
    "register mro elements open input version_info with_traceback add_note attrgetter breakpoint builtins compile "
    "copyright credits delattr dir eval exec exit gc getattr globals hasattr help id importlib license locals "
    "methodcaller os quit setattr super sys type vars format format_map"
).split()
KEYWORDS = {
    "sorted": {"key", "reverse"}, "min": {"key", "default"}, "max": {"key", "default"}, "sum": {"start"},
    "enumerate": {"start"}, "zip": {"strict"},
}
VALUES_ALLOWED = "count index title find get join lower upper split strip copy add".split()
OWN_OF_PYTHON = {name for kind in (str, int, list, dict, set, bytes) for name in dir(kind)}


def bound_names(tree):
    names = set()
    for node in ast.walk(tree):
        if isinstance(node, ast.Name) and isinstance(node.ctx, ast.Store):
            names.add(node.id)
        elif isinstance(node, ast.arg):
            names.add(node.arg)
        elif isinstance(node, (ast.FunctionDef, ast.ClassDef)):
            names.add(node.name)
        elif isinstance(node, ast.alias):
            names.add(node.asname or node.name)
    return names


class Form(unittest.TestCase):
    def each(self):
        self.assertIn(PACKAGE / "desk.py", FILES)
        texts = [path.read_bytes().decode("utf-8") for path in FILES]
        return [(path, text, ast.parse(text, path.name)) for path, text in zip(FILES, texts)]

    def test_files_and_signs(self):
        for path, text, tree in self.each():
            self.assertRegex(path.name, r"^[a-z0-9_]+\.py$")
            self.assertRegex(text, r"\A[ -~\n]*\Z")
            self.assertIsNone(re.search(WORDS, text))
            rows = text.split("\n")
            self.assertLessEqual(len(rows), 400)
            self.assertLessEqual(max(len(row) for row in rows), 120)

    def test_statements(self):
        for path, text, tree in self.each():
            for node in ast.walk(tree):
                self.assertNotIsInstance(node, REFUSED)
                if isinstance(node, ast.stmt):
                    self.assertIsInstance(node, STATEMENTS, node)
                if isinstance(node, (ast.For, ast.While)):
                    self.assertEqual(node.orelse, [])
                if isinstance(node, ast.Assign):
                    self.assertEqual(len(node.targets), 1)
                if isinstance(node, ast.Constant):
                    self.assertIn(type(node.value), (int, str, bool, type(None)))

    def test_functions_and_classes(self):
        for path, text, tree in self.each():
            for node in ast.walk(tree):
                if isinstance(node, ast.FunctionDef):
                    self.assertLessEqual(node.end_lineno - node.lineno + 1, 40, node.name)
                    self.assertEqual(node.decorator_list, [])
                    self.assertIsNone(node.args.vararg or node.args.kwarg)
                    self.assertEqual(node.args.kwonlyargs, [])
                if isinstance(node, ast.ClassDef):
                    self.assertEqual(node.decorator_list, [])
                    self.assertLessEqual(len(node.bases), 1)
                    for inner in node.body:
                        self.assertIsInstance(inner, (ast.FunctionDef, ast.Pass))

    def test_imports(self):
        for path, text, tree in self.each():
            for node in ast.walk(tree):
                if isinstance(node, ast.ImportFrom):
                    self.assertIn(node, tree.body)
                    self.assertEqual(node.level, 0)
                    self.assertRegex(node.module, r"^talkwatch\.[a-z0-9_]+$")
                    self.assertNotIn("*", [alias.name for alias in node.names])

    def test_names(self):
        for path, text, tree in self.each():
            bound = bound_names(tree)
            self.assertEqual(bound & set(BUILT_IN), set())
            for name in bound - {"__init__"}:
                self.assertRegex(name, r"^[A-Za-z][A-Za-z0-9_]*$")
            for node in ast.walk(tree):
                if isinstance(node, ast.Name) and isinstance(node.ctx, ast.Load):
                    self.assertIn(node.id, bound | set(BUILT_IN))

    def test_the_top_of_a_module(self):
        for path, text, tree in self.each():
            bound = []
            for node in tree.body:
                if isinstance(node, ast.Assign):
                    ast.literal_eval(node.value)
                    bound.append(node.targets[0].id)
                elif isinstance(node, (ast.FunctionDef, ast.ClassDef)):
                    bound.append(node.name)
                elif isinstance(node, ast.ImportFrom):
                    bound.extend(alias.name for alias in node.names)
                else:
                    self.assertIsInstance(node, ast.Expr)
                    self.assertIsInstance(node.value.value, str)
            self.assertEqual(len(bound), len(set(bound)), path)

    def test_imports_come_from_where_the_name_is_defined(self):
        defined = {}
        drawn = {}
        for path, text, tree in self.each():
            module = "talkwatch." + path.stem
            tops = [node for node in tree.body if not isinstance(node, ast.ImportFrom)]
            defined[module] = bound_names(ast.Module([node for node in tops if not isinstance(node, ast.Expr)], []))
            drawn[module] = {node.module: node.names for node in tree.body if isinstance(node, ast.ImportFrom)}
        for module, rows in drawn.items():
            for source, names in rows.items():
                self.assertLessEqual({alias.name for alias in names}, defined[source])
        for module in drawn:
            reached, waiting = set(), [module]
            while waiting:
                for source in drawn[waiting.pop()]:
                    self.assertNotEqual(source, module)
                    if source not in reached:
                        reached.add(source)
                        waiting.append(source)

    def test_names_that_are_taken(self):
        for path, text, tree in self.each():
            classes = {node.name for node in tree.body if isinstance(node, ast.ClassDef)}
            imports = {alias.name for node in tree.body if isinstance(node, ast.ImportFrom) for alias in node.names}
            for node in ast.walk(tree):
                if isinstance(node, ast.arg) or isinstance(node, ast.Name) and isinstance(node.ctx, ast.Store):
                    bound = node.arg if isinstance(node, ast.arg) else node.id
                    self.assertNotIn(bound, classes | imports)
                    self.assertNotIn(bound, dir(builtins))
                if isinstance(node, (ast.Name, ast.Attribute)):
                    self.assertNotIn(node.id if isinstance(node, ast.Name) else node.attr, UNUSED_NAMES)

    def test_methods_and_values(self):
        methods, values = set(), set()
        for path, text, tree in self.each():
            for node in ast.walk(tree):
                if isinstance(node, ast.ClassDef):
                    own = [inner.name for inner in node.body if isinstance(inner, ast.FunctionDef)]
                    self.assertEqual(len(own), len(set(own)))
                    methods |= set(own)
                if isinstance(node, ast.Attribute) and isinstance(node.ctx, ast.Store):
                    values.add(node.attr)
        self.assertEqual(methods & values, set())
        self.assertEqual((methods - {"__init__"}) & (OWN_OF_PYTHON - set(METHODS) - {"add", "discard"}), set())
        self.assertEqual(values & (OWN_OF_PYTHON - set(VALUES_ALLOWED)), set())

    def test_small_forms(self):
        for path, text, tree in self.each():
            for node in ast.walk(tree):
                if isinstance(node, ast.Compare):
                    for operator, side in zip(node.ops, node.comparators):
                        if isinstance(operator, (ast.Is, ast.IsNot)):
                            self.assertIn(getattr(side, "value", 0), (None, True, False))
                if isinstance(node, ast.ListComp):
                    self.assertEqual(len(node.generators), 1)
                    self.assertLessEqual(len(node.generators[0].ifs), 1)
                if isinstance(node, ast.FunctionDef):
                    self.assertIsNone(node.returns)
                if isinstance(node, ast.arg):
                    self.assertIsNone(node.annotation)
                if isinstance(node, ast.BinOp):
                    self.assertNotIsInstance(node.op, ast.Pow)
                if isinstance(node, ast.Constant) and isinstance(node.value, str):
                    self.assertNotIn("%", node.value)

    def test_calls(self):
        for path, text, tree in self.each():
            for node in ast.walk(tree):
                if isinstance(node, ast.Call) and isinstance(node.func, ast.Name) and node.func.id in BUILT_IN:
                    self.assertLessEqual({word.arg for word in node.keywords}, KEYWORDS.get(node.func.id, set()))
                if isinstance(node, ast.Call) and isinstance(node.func, ast.Attribute):
                    self.assertEqual(node.keywords, [])
            handed_on = [inner for node in ast.walk(tree) if isinstance(node, ast.Call) for inner in node.args]
            for node in handed_on:
                if isinstance(node, ast.Name):
                    self.assertNotIn(node.id, BUILT_IN)

    def test_methods(self):
        own = set()
        for path, text, tree in self.each():
            own |= {node.name for node in ast.walk(tree) if isinstance(node, ast.FunctionDef)}
        for path, text, tree in self.each():
            for node in ast.walk(tree):
                if isinstance(node, ast.Call) and isinstance(node.func, ast.Attribute):
                    self.assertIn(node.func.attr, own | set(METHODS))


if __name__ == "__main__":
    unittest.main()
