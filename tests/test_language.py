"""The package's files keep to the part of Python that it is written in, as far as a test can see it."""

import ast
import builtins
import pathlib
import re
import unittest

PACKAGE = pathlib.Path(__file__).resolve().parent.parent / "snippets"
FILES = sorted(PACKAGE.glob("**/*.py"))

OWN_NAMES = set("""len range enumerate zip min max sum abs sorted reversed int str bool list tuple dict set frozenset
    isinstance ord repr any all divmod Exception ValueError TypeError KeyError IndexError LookupError
    ZeroDivisionError ArithmeticError OverflowError RuntimeError NotImplementedError AttributeError""".split())
METHODS = set("""append clear copy count endswith extend find get index insert isalnum isalpha isdigit islower isspace
    isupper items join keys ljust lower lstrip partition pop remove replace reverse rfind rjust rpartition rsplit
    rstrip setdefault split splitlines startswith strip update upper values zfill bit_length""".split())
WORDS = re.compile(r"\b(type|typing|typing_extensions|enum|Enum|IntEnum|StrEnum|Flag|IntFlag|Generic|Protocol|ABC|"
                   r"ABCMeta|namedtuple|NamedTuple|TypedDict|TYPE_CHECKING|abstractmethod)\b|dataclass|overload|"
                   r"contextmanager")
NOT_NAMES = set("""register mro elements open input version_info with_traceback add_note format format_map""".split())
STATEMENTS = (ast.Assign, ast.AugAssign, ast.If, ast.While, ast.For, ast.Return, ast.Break, ast.Continue, ast.Pass,
              ast.Raise, ast.Try, ast.Expr, ast.FunctionDef, ast.ClassDef, ast.ImportFrom)
NOT_USED = (ast.SetComp, ast.DictComp, ast.GeneratorExp, ast.NamedExpr, ast.Starred, ast.Set, ast.Div, ast.Yield,
            ast.Await, ast.AnnAssign, ast.MatMult)


def parsed():
    for file in FILES:
        yield file, ast.parse(file.read_text(encoding="ascii"))


def bound_names(tree):
    found = set()
    for node in ast.walk(tree):
        if isinstance(node, ast.Name) and isinstance(node.ctx, ast.Store):
            found.add(node.id)
        elif isinstance(node, ast.arg):
            found.add(node.arg)
        elif isinstance(node, (ast.FunctionDef, ast.ClassDef)):
            found.add(node.name)
        elif isinstance(node, ast.alias):
            found.add(node.name)
        elif isinstance(node, ast.ExceptHandler) and node.name:
            found.add(node.name)
    return found


class LanguageTest(unittest.TestCase):
    def check_nodes(self, check):
        for file, tree in parsed():
            for node in ast.walk(tree):
                self.assertTrue(check(node), f"{file.name}, line {getattr(node, 'lineno', 0)}")

    def test_files(self):
        self.assertTrue(FILES)
        for path in PACKAGE.glob("**/*"):
            if "__pycache__" not in path.parts:
                self.assertRegex(path.name, r"^[a-z0-9_]+(\.py)?$")

    def test_size_and_signs(self):
        for file in FILES:
            lines = file.read_text(encoding="ascii").split("\n")
            self.assertLessEqual(len(lines), 400, file.name)
            for line in lines:
                self.assertRegex(line, r"^[ -~]{0,120}$", file.name)
        self.check_nodes(lambda node: not isinstance(node, ast.FunctionDef) or node.end_lineno - node.lineno < 40)

    def test_words(self):
        for file in FILES:
            self.assertIsNone(WORDS.search(file.read_text()), file.name)

    def test_statements(self):
        self.check_nodes(lambda node: not isinstance(node, ast.stmt) or isinstance(node, STATEMENTS))
        self.check_nodes(lambda node: not isinstance(node, NOT_USED))
        self.check_nodes(lambda node: not isinstance(node, (ast.For, ast.While)) or not node.orelse)
        self.check_nodes(lambda node: not isinstance(node, ast.Try) or not node.finalbody)
        self.check_nodes(lambda node: not isinstance(node, ast.Assign) or (
            len(node.targets) == 1 and not isinstance(node.targets[0], (ast.Tuple, ast.List))))

    def test_only_a_module_has_a_docstring_and_calls_stand_by_themselves(self):
        for file, tree in parsed():
            for node in ast.walk(tree):
                if isinstance(node, ast.Expr) and node is not tree.body[0]:
                    self.assertIsInstance(node.value, ast.Call, f"{file.name}, line {node.lineno}")

    def test_functions_and_classes(self):
        def check(node):
            if isinstance(node, (ast.FunctionDef, ast.ClassDef)) and node.decorator_list:
                return False
            if isinstance(node, ast.ClassDef):
                return len(node.bases) < 2 and all(isinstance(inner, ast.FunctionDef) for inner in node.body)
            if isinstance(node, ast.arguments):
                return not (node.vararg or node.kwarg or node.kwonlyargs or node.posonlyargs)
            return True
        self.check_nodes(check)

    def test_values(self):
        self.check_nodes(lambda node: not isinstance(node, ast.Constant) or (
            node.value is None or isinstance(node.value, (bool, int, str))))
        self.check_nodes(lambda node: not isinstance(node, ast.ListComp) or (
            len(node.generators) == 1 and len(node.generators[0].ifs) < 2))
        self.check_nodes(lambda node: not isinstance(node, ast.Compare) or not any(
            isinstance(way, (ast.Is, ast.IsNot)) for way in node.ops))

    def test_imports(self):
        for file, tree in parsed():
            for node in ast.walk(tree):
                if isinstance(node, ast.ImportFrom):
                    source = PACKAGE.parent / (node.module.replace(".", "/") + ".py")
                    self.assertEqual(node.level, 0)
                    self.assertTrue(source.is_file(), node.module)
                    tops = ast.parse(source.read_text()).body
                    own = {top.name for top in tops if isinstance(top, (ast.FunctionDef, ast.ClassDef))}
                    own |= {top.targets[0].id for top in tops if isinstance(top, ast.Assign)}
                    for name in node.names:
                        self.assertIn(name.name, own, file.name)
                        self.assertIsNone(name.asname)

    def test_imported_names_are_used(self):
        for file, tree in parsed():
            used = {node.id for node in ast.walk(tree) if isinstance(node, ast.Name)}
            for node in tree.body:
                for name in getattr(node, "names", []):
                    self.assertIn(name.name, used, file.name)

    def test_names(self):
        for file, tree in parsed():
            bound = bound_names(tree)
            for name in bound - {"__init__"}:
                self.assertRegex(name, r"^[A-Za-z][A-Za-z0-9_]*$", file.name)
                self.assertNotIn(name, NOT_NAMES, file.name)
            for node in ast.walk(tree):
                if isinstance(node, ast.Name) and isinstance(node.ctx, ast.Load):
                    self.assertIn(node.id, bound | OWN_NAMES, f"{file.name}, line {node.lineno}")
            top = {node.name for node in tree.body if isinstance(node, ast.ClassDef)}
            top |= {name.name for node in tree.body for name in getattr(node, "names", [])}
            local = {node.arg for node in ast.walk(tree) if isinstance(node, ast.arg)}
            local |= {node.id for node in ast.walk(tree) if isinstance(node, ast.Name) and isinstance(node.ctx, ast.Store)}
            self.assertEqual(local & (top | set(dir(builtins)) | OWN_NAMES), set(), file.name)

    def test_methods_and_values(self):
        methods, values, called = set(), set(), set()
        for _, tree in parsed():
            for node in ast.walk(tree):
                if isinstance(node, ast.ClassDef):
                    methods |= {inner.name for inner in node.body}
                elif isinstance(node, ast.Attribute) and isinstance(node.ctx, ast.Store):
                    values.add(node.attr)
                elif isinstance(node, ast.Call) and isinstance(node.func, ast.Attribute):
                    called.add(node.func.attr)
        taken = {name for kind in (str, int, list, dict, set, bytes, tuple) for name in dir(kind)}
        self.assertEqual(called - METHODS - methods, set())
        self.assertEqual(methods & values, set())
        self.assertEqual((methods | values) & (taken | NOT_NAMES) - {"__init__"}, set())

    def test_lists_and_dicts_of_a_files_top_are_only_read(self):
        for file, tree in parsed():
            kept = {node.targets[0].id for node in tree.body
                    if isinstance(node, ast.Assign) and isinstance(node.value, (ast.List, ast.Dict))}
            for node in ast.walk(tree):
                if isinstance(node, ast.Call):
                    handed = {value.id for value in node.args if isinstance(value, ast.Name)}
                    name = node.func.id if isinstance(node.func, ast.Name) else ""
                    self.assertTrue(name in ("len", "list", "dict", "sorted") or not handed & kept, file.name)
                elif isinstance(node, (ast.Return, ast.Assign)) and isinstance(node.value, ast.Name):
                    self.assertNotIn(node.value.id, kept, file.name)


if __name__ == "__main__":
    unittest.main()
