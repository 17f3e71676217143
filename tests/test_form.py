"""The form of the package's own files: the rules that can be seen by walking their trees."""

import ast
import builtins
import pathlib
import re
import unittest

PACKAGE = pathlib.Path(__file__).resolve().parent.parent / "textsift"
FILES = sorted(PACKAGE.glob("*.py"))

STATEMENTS = (ast.Assign, ast.AugAssign, ast.If, ast.While, ast.For, ast.Return, ast.Break, ast.Continue, ast.Pass,
              ast.Raise, ast.Try, ast.Expr, ast.FunctionDef, ast.ClassDef, ast.ImportFrom)
EXPRESSIONS = (ast.Constant, ast.JoinedStr, ast.FormattedValue, ast.List, ast.Tuple, ast.Dict, ast.BinOp, ast.UnaryOp,
               ast.BoolOp, ast.Compare, ast.IfExp, ast.Call, ast.Attribute, ast.Subscript, ast.Slice, ast.Name,
               ast.ListComp)
OWN_NAMES = """len range enumerate zip min max sum abs sorted reversed int str bool list tuple dict isinstance ord repr
any all divmod Exception ValueError TypeError KeyError IndexError LookupError ZeroDivisionError ArithmeticError
OverflowError RuntimeError NotImplementedError""".split()
METHODS = """append clear copy count endswith extend find get index insert isalnum isalpha isdigit islower isspace
isupper items join keys ljust lower lstrip partition pop remove replace reverse rfind rjust rpartition rsplit rstrip
setdefault split splitlines startswith strip update upper values zfill bit_length""".split()
NEVER = """register mro elements open input version_info with_traceback add_note attrgetter breakpoint builtins compile
copyright credits delattr dir eval exec exit gc getattr globals hasattr help id importlib license locals methodcaller os
quit setattr super type vars sys format format_map""".split()
WORDS_NOWHERE = re.compile(
    r"\b(type|typing|typing_extensions|enum|Enum|IntEnum|StrEnum|Flag|IntFlag|Generic|Protocol|ABC|ABCMeta|namedtuple"
    r"|NamedTuple|TypedDict|TYPE_CHECKING|abstractmethod)\b|dataclass|overload|contextmanager")
PYTHONS = {known for kind in (str, int, list, dict, set, frozenset, bytes, tuple) for known in dir(kind)}


def trees():
    return [(file.name, ast.parse(file.read_text(encoding="utf-8"))) for file in FILES]


def nodes(kind):
    return [(file, node) for file, tree in trees() for node in ast.walk(tree) if isinstance(node, kind)]


def own_methods():
    return {part.name for file, node in nodes(ast.ClassDef) for part in node.body if isinstance(part, ast.FunctionDef)}


def own_values():
    return {node.attr for file, node in nodes(ast.Attribute) if isinstance(node.ctx, ast.Store)}


def plain(node):
    """Whether a value at a file's top is a plain one."""
    if isinstance(node, (ast.Tuple, ast.List)):
        return all(plain(part) for part in node.elts)
    if isinstance(node, ast.Dict):
        return all(plain(part) for part in node.keys + node.values)
    return isinstance(node, ast.Constant) and isinstance(node.value, (int, str, type(None)))


class FormTest(unittest.TestCase):
    def test_files(self):
        self.assertIn("__init__.py", [file.name for file in FILES])
        for found in PACKAGE.iterdir():
            if found.name != "__pycache__":
                self.assertRegex(found.name, r"^[a-z_][a-z0-9_]*\.py$")
                self.assertNotIn(found.stem, dir(builtins))

    def test_rows_and_signs(self):
        for file in FILES:
            rows = file.read_text(encoding="utf-8").split("\n")
            self.assertLessEqual(len(rows), 400, file.name)
            for count, line in enumerate(rows, start=1):
                self.assertLessEqual(len(line), 120, (file.name, count))
                self.assertRegex(line, r"^[ -~]*$", (file.name, count))
                self.assertIsNone(WORDS_NOWHERE.search(line), (file.name, count))

    def test_functions_are_short_and_plain(self):
        for file, node in nodes(ast.FunctionDef):
            self.assertLessEqual(node.end_lineno - node.lineno + 1, 40, (file, node.name))
            self.assertEqual(node.decorator_list, [], (file, node.name))
            spec = node.args
            self.assertFalse(spec.vararg or spec.kwarg or spec.kwonlyargs or spec.posonlyargs, (file, node.name))
            self.assertIsNone(node.returns)
            self.assertTrue(ast.get_docstring(node) or node.name == "__init__", (file, node.name))

    def test_only_the_nodes_that_are_allowed(self):
        for file, node in nodes((ast.stmt, ast.expr)):
            self.assertIsInstance(node, STATEMENTS + EXPRESSIONS, (file, node.lineno))
        for file, node in nodes((ast.For, ast.While)):
            self.assertEqual(node.orelse, [], (file, node.lineno))
        for file, node in nodes(ast.Assign):
            self.assertEqual(len(node.targets), 1, (file, node.lineno))
            self.assertIsInstance(node.targets[0], (ast.Name, ast.Attribute, ast.Subscript), (file, node.lineno))
        for file, node in nodes(ast.Expr):
            is_docstring = isinstance(node.value, ast.Constant) and isinstance(node.value.value, str)
            self.assertTrue(is_docstring or isinstance(node.value, ast.Call), (file, node.lineno))
        for file, node in nodes(ast.BinOp):
            self.assertNotIsInstance(node.op, (ast.Div, ast.Pow, ast.MatMult), (file, node.lineno))
        for file, node in nodes(ast.Constant):
            self.assertNotIsInstance(node.value, (float, bytes, complex), (file, node.lineno))
            if isinstance(node.value, str):
                self.assertNotIn(chr(37), node.value, (file, node.lineno))
        for file, node in nodes(ast.ListComp):
            self.assertEqual(len(node.generators), 1, (file, node.lineno))
        for file, node in nodes(ast.Compare):
            if any(isinstance(sign, (ast.Is, ast.IsNot)) for sign in node.ops):
                self.assertTrue(all(isinstance(side, ast.Constant) for side in node.comparators), (file, node.lineno))

    def test_top_of_each_file(self):
        for file, tree in trees():
            self.assertTrue(ast.get_docstring(tree), file)
            bound = []
            for node in tree.body[1:]:
                self.assertIsInstance(node, (ast.ImportFrom, ast.FunctionDef, ast.ClassDef, ast.Assign), file)
                if isinstance(node, ast.Assign):
                    self.assertTrue(plain(node.value), (file, node.lineno))
                    bound.append(node.targets[0].id)
                elif isinstance(node, ast.ImportFrom):
                    bound += [part.name for part in node.names]
                else:
                    bound.append(node.name)
            self.assertEqual(len(bound), len(set(bound)), file)

    def test_imports_come_from_the_file_that_defines_the_name_and_are_used(self):
        drawn = {}
        for file, tree in trees():
            used = {node.id for node in ast.walk(tree) if isinstance(node, ast.Name)}
            drawn[file] = []
            for node in [node for node in ast.walk(tree) if isinstance(node, ast.ImportFrom)]:
                self.assertEqual((node.level, node.module.split(".")[0], node.module.count(".")), (0, "textsift", 1))
                source = node.module.split(".")[1] + ".py"
                drawn[file].append(source)
                defined = dict(trees())[source].body
                names = [part.name for part in defined if isinstance(part, (ast.FunctionDef, ast.ClassDef))]
                names += [part.targets[0].id for part in defined if isinstance(part, ast.Assign)]
                for part in node.names:
                    self.assertIsNone(part.asname)
                    self.assertIn(part.name, names, file)
                    self.assertIn(part.name, used, file)
        self.assertEqual(drawn["__init__.py"], [])
        left = dict(drawn)
        while left:
            ready = [file for file in left if not any(source in left for source in left[file])]
            self.assertTrue(ready, f"files draw from one another: {sorted(left)}")
            left = {file: left[file] for file in left if file not in ready}

    def test_names(self):
        for file, tree in trees():
            top = {node.name for node in tree.body if isinstance(node, ast.ClassDef)}
            top |= {part.name for node in tree.body if isinstance(node, ast.ImportFrom) for part in node.names}
            for node in ast.walk(tree):
                if isinstance(node, (ast.FunctionDef, ast.ClassDef)):
                    self.assertRegex(node.name, r"^([A-Za-z][A-Za-z0-9_]*|__(init|eq|repr|str|len)__)$")
                local = node.arg if isinstance(node, ast.arg) else None
                if isinstance(node, ast.Name):
                    self.assertNotIn(node.id, NEVER, file)
                    if node.id in dir(builtins):
                        self.assertIn(node.id, OWN_NAMES, file)
                    if isinstance(node.ctx, ast.Store):
                        local = node.id
                if local is not None:
                    self.assertRegex(local, r"^[A-Za-z][A-Za-z0-9_]*$")
                    self.assertNotIn(local, set(dir(builtins)) | top | set(NEVER), file)

    def test_methods_and_values(self):
        self.assertEqual(own_methods() & own_values(), set())
        self.assertEqual((own_values() | own_methods()) & (PYTHONS - {"__init__"} | set(NEVER)), set())
        for file, node in nodes(ast.Attribute):
            self.assertIn(node.attr, own_methods() | own_values() | set(METHODS), (file, node.lineno))
        for file, node in nodes(ast.ClassDef):
            self.assertLessEqual(len(node.bases), 1)
            self.assertEqual(node.decorator_list, [])
            for part in node.body[1:]:
                self.assertIsInstance(part, ast.FunctionDef, (file, node.name))

    def test_readme_and_tests_lie_beside_the_package(self):
        self.assertTrue((PACKAGE.parent / "README.md").is_file())
        self.assertEqual([file.name for file in PACKAGE.rglob("test*")], [])


if __name__ == "__main__":
    unittest.main()
