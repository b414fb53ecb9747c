"""The rules for the package's own files that can be seen from outside (../shared/LANGUAGE.md)."""

import ast
import builtins
import pathlib
import re
import unittest

PACKAGE = pathlib.Path(__file__).resolve().parent.parent / "thingwatch"
FILES = sorted(PACKAGE.glob("*.py"))

WORDS = ("type typing typing_extensions enum Enum IntEnum StrEnum Flag IntFlag Generic Protocol ABC ABCMeta "
         "namedtuple NamedTuple TypedDict TYPE_CHECKING abstractmethod").split()
PARTS = "dataclass overload contextmanager".split()
NOWHERE = "register mro elements open input version_info with_traceback add_note format format_map".split()
NODES = (ast.With, ast.Match, ast.Delete, ast.Global, ast.Nonlocal, ast.Assert, ast.Yield, ast.YieldFrom, ast.Await,
         ast.AsyncFunctionDef, ast.NamedExpr, ast.Starred, ast.SetComp, ast.DictComp, ast.GeneratorExp, ast.Div,
         ast.AnnAssign, ast.Set, ast.Import, ast.Pow)
NAMES = ("len range enumerate zip min max sum abs sorted reversed int str bool list tuple dict set frozenset "
         "isinstance ord repr any all divmod Exception ValueError TypeError KeyError IndexError LookupError "
         "ZeroDivisionError ArithmeticError OverflowError RuntimeError NotImplementedError AttributeError "
         "StopIteration").split()
METHODS = ("append clear copy count endswith extend find get index insert isalnum isalpha isdigit islower isspace "
           "isupper items join keys ljust lower lstrip partition pop remove replace reverse rfind rjust rpartition "
           "rsplit rstrip setdefault split splitlines startswith strip update upper values zfill bit_length").split()


def walked(file):
    return list(ast.walk(ast.parse(file.read_text())))


def bound_names(node):
    if isinstance(node, (ast.FunctionDef, ast.ClassDef)):
        return [node.name]
    if isinstance(node, ast.arg):
        return [node.arg]
    if isinstance(node, ast.Name) and isinstance(node.ctx, ast.Store):
        return [node.id]
    if isinstance(node, ast.Attribute):
        return [node.attr]
    return []


class Language(unittest.TestCase):
    def test_the_package_is_one_folder_of_python_files(self):
        others = [file.name for file in PACKAGE.iterdir() if file.name != "__pycache__" and file not in FILES]
        self.assertEqual(others, [])
        self.assertIn(PACKAGE / "__init__.py", FILES)

    def test_signs_lines_and_words(self):
        for file in FILES:
            text = file.read_bytes().decode("utf-8")
            self.assertTrue(all(sign == "\n" or " " <= sign <= "~" for sign in text), file)
            rows = text.split("\n")
            self.assertLessEqual(len(rows), 401, file)
            self.assertLessEqual(max(len(row) for row in rows), 120, file)
            self.assertEqual([word for word in WORDS if re.search(rf"\b{word}\b", text)], [], file)
            self.assertEqual([part for part in PARTS if part in text], [], file)

    def test_functions_are_short_and_plain(self):
        for file in FILES:
            for node in walked(file):
                if not isinstance(node, ast.FunctionDef):
                    continue
                self.assertLessEqual(node.end_lineno - node.lineno + 1, 40, (file, node.name))
                self.assertEqual(node.decorator_list, [])
                self.assertIsNone(node.args.vararg or node.args.kwarg or node.returns)
                self.assertEqual(node.args.kwonlyargs, [])

    def test_statements_and_values(self):
        for file in FILES:
            for node in walked(file):
                where = (file.name, getattr(node, "lineno", None))
                self.assertNotIsInstance(node, NODES, where)
                if isinstance(node, (ast.For, ast.While)):
                    self.assertEqual(node.orelse, [], where)
                if isinstance(node, ast.Assign):
                    self.assertEqual(len(node.targets), 1, where)
                if isinstance(node, ast.Constant):
                    self.assertIn(type(node.value), (int, str, bool, type(None)), where)
                    self.assertFalse(isinstance(node.value, str) and chr(37) in node.value, where)
                if isinstance(node, ast.Compare) and any(isinstance(op, (ast.Is, ast.IsNot)) for op in node.ops):
                    self.assertIsInstance(node.comparators[0], ast.Constant, where)
                if isinstance(node, ast.ListComp):
                    self.assertTrue(len(node.generators) == 1 and len(node.generators[0].ifs) <= 1, where)

    def test_imports_are_the_packages_own_and_go_one_way(self):
        draws = {}
        for file in FILES:
            rows = [node for node in walked(file) if isinstance(node, ast.ImportFrom)]
            self.assertTrue(all(row.level == 0 and row.module.startswith("thingwatch.") for row in rows), file)
            draws[file.stem] = {row.module.split(".")[1] for row in rows}
        self.assertEqual(draws["__init__"], set())
        while draws:
            ends = [name for name, drawn in draws.items() if not drawn & set(draws)]
            self.assertNotEqual(ends, [], draws)
            for name in ends:
                draws.pop(name)

    def test_names(self):
        for file in FILES:
            nodes = walked(file)
            for node in nodes:
                for name in bound_names(node):
                    self.assertNotIn(name, NOWHERE, file)
                    self.assertTrue(name == "__init__" or not name.startswith("_"), (file, name))
                    if not isinstance(node, ast.Attribute) and name != "__init__":
                        self.assertFalse(hasattr(builtins, name), (file, name))
                if isinstance(node, ast.Name) and hasattr(builtins, node.id):
                    self.assertIn(node.id, NAMES, (file, node.lineno))
            imports = [name.name for node in nodes if isinstance(node, ast.ImportFrom) for name in node.names]
            classes = [node.name for node in nodes if isinstance(node, ast.ClassDef)]
            locals_ = [name for node in nodes if isinstance(node, (ast.arg, ast.Name)) for name in bound_names(node)]
            self.assertEqual([name for name in locals_ if name in imports + classes], [], file)

    def test_methods_and_values_of_objects(self):
        methods, values, called = set(), set(), set()
        for file in FILES:
            for node in walked(file):
                if isinstance(node, ast.ClassDef):
                    methods |= {part.name for part in node.body if isinstance(part, ast.FunctionDef)}
                    self.assertTrue(all(isinstance(part, (ast.FunctionDef, ast.Pass)) for part in node.body), file)
                if isinstance(node, ast.Attribute) and isinstance(node.ctx, ast.Store):
                    values.add(node.attr)
                if isinstance(node, ast.Call) and isinstance(node.func, ast.Attribute):
                    called.add(node.func.attr)
        self.assertEqual(methods & values, set())
        python_own = set().union(*[dir(each) for each in (str, int, list, dict, set, bytes, tuple)])
        self.assertEqual((methods | values) & python_own - {"__init__"}, set())
        self.assertEqual(called - methods - set(METHODS), set())

    def test_the_top_of_a_file(self):
        for file in FILES:
            tops = ast.parse(file.read_text()).body
            self.assertIsInstance(tops[0], ast.Expr)
            names = [name for top in tops if not isinstance(top, (ast.Expr, ast.ImportFrom))
                     for name in (bound_names(top) or [top.targets[0].id])]
            self.assertEqual(len(names), len(set(names)), file)
            for top in tops[1:]:
                self.assertIsInstance(top, (ast.ImportFrom, ast.FunctionDef, ast.ClassDef, ast.Assign), file)
