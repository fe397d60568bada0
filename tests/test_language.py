"""Holds the package's files against the rules of LANGUAGE.md that can be seen by reading them."""

import ast
import builtins
import pathlib
import re
import unittest

PACKAGE = pathlib.Path(__file__).resolve().parent.parent / "arcmill"

OWN_NAMES = set("""len range enumerate zip min max sum abs sorted reversed int str bool bytes list tuple dict set
frozenset isinstance ord repr any all divmod Exception ValueError TypeError KeyError IndexError LookupError
ZeroDivisionError ArithmeticError OverflowError RuntimeError NotImplementedError AttributeError
StopIteration""".split())

METHODS = set("__init__ __eq__ __repr__ __str__ __len__".split())

WORDS = re.compile(r"\b(type|typing|typing_extensions|enum|Enum|IntEnum|StrEnum|Flag|IntFlag|Generic|Protocol|ABC|"
                   r"ABCMeta|namedtuple|NamedTuple|TypedDict|TYPE_CHECKING|abstractmethod)\b"
                   r"|dataclass|overload|contextmanager")

NOT_USED = set("""register mro elements open input version_info with_traceback add_note attrgetter breakpoint builtins
compile copyright credits delattr dir eval exec exit gc getattr globals hasattr help id importlib license locals
methodcaller os quit setattr super type vars sys""".split())

PLACES = (ast.With, ast.Match, ast.Global, ast.Nonlocal, ast.Yield, ast.YieldFrom, ast.AsyncFunctionDef, ast.Await,
          ast.AsyncFor, ast.AsyncWith, ast.GeneratorExp, ast.NamedExpr, ast.Div, ast.Import, ast.MatMult)


def files():
    return sorted(PACKAGE.rglob("*.py"))


def read(path):
    return path.read_text(encoding="utf-8")


def tree_of(path):
    return ast.parse(read(path))


def module_of(name):
    """The file of a module's full name."""
    return PACKAGE.parent.joinpath(*name.split(".")).with_suffix(".py")


def top_names(tree):
    names = []
    for row in tree.body:
        if isinstance(row, (ast.FunctionDef, ast.ClassDef)):
            names.append(row.name)
        elif isinstance(row, ast.Assign):
            names += [target.id for target in row.targets]
        elif isinstance(row, ast.ImportFrom):
            names += [each.asname or each.name for each in row.names]
    return names


def imports_of(tree):
    return [row for row in ast.walk(tree) if isinstance(row, ast.ImportFrom)]


def defs_of(tree):
    return [row for row in ast.walk(tree) if isinstance(row, ast.FunctionDef)]


def given_names(deed):
    """Parameters and locals of a def."""
    names = [each.arg for each in deed.args.args + deed.args.kwonlyargs]
    for row in ast.walk(deed):
        if isinstance(row, ast.Name) and not isinstance(row.ctx, ast.Load):
            names.append(row.id)
        elif isinstance(row, ast.FunctionDef) and row is not deed:
            names.append(row.name)
        elif isinstance(row, ast.ExceptHandler) and row.name:
            names.append(row.name)
    return names


class Language(unittest.TestCase):
    def each(self):
        return [(path, tree_of(path)) for path in files()]

    def test_files_and_signs(self):
        for path in PACKAGE.iterdir():
            if path.name != "__pycache__":
                self.assertRegex(path.name, r"^[a-z0-9_]+\.py$")
        for path in files():
            text = read(path)
            self.assertIsNone(re.search(r"[^ -~\n]", text), path.name)
            self.assertIsNone(WORDS.search(text), path.name)

    def test_size(self):
        for path, tree in self.each():
            rows = read(path).split("\n")
            self.assertLessEqual(len(rows), 400)
            self.assertLessEqual(max(len(row) for row in rows), 120)
            for deed in defs_of(tree):
                self.assertLessEqual(deed.end_lineno - deed.lineno + 1, 40, deed.name)

    def test_imports(self):
        for _, tree in self.each():
            for row in imports_of(tree):
                self.assertIn(row, tree.body)
                self.assertEqual(row.level, 0)
                self.assertTrue(row.module.startswith("arcmill."))
                source = tree_of(module_of(row.module))
                drawn = {each.name for other in imports_of(source) for each in other.names}
                for each in row.names:
                    self.assertIn(each.name, top_names(source))
                    self.assertNotIn(each.name, drawn)

    def test_no_two_files_draw_from_one_another(self):
        draws = {path: {module_of(row.module) for row in imports_of(tree_of(path))} for path in files()}
        while draws:
            free = [path for path in draws if not any(other in draws for other in draws[path])]
            self.assertTrue(free, "files draw from one another")
            draws = {path: drawn for path, drawn in draws.items() if path not in free}

    def test_top_of_a_file(self):
        for _, tree in self.each():
            self.assertIsNotNone(ast.get_docstring(tree))
            for row in tree.body[1:]:
                self.assertIsInstance(row, (ast.ImportFrom, ast.FunctionDef, ast.ClassDef, ast.Assign))
            names = top_names(tree)
            self.assertEqual(len(names), len(set(names)))

    def test_no_row_outside_the_small_part(self):
        for path, tree in self.each():
            for row in ast.walk(tree):
                where = (path.name, getattr(row, "lineno", None))
                self.assertNotIsInstance(row, PLACES, where)
                if isinstance(row, ast.Constant):
                    self.assertNotIsInstance(row.value, (float, complex), where)
                    self.assertFalse(isinstance(row.value, str) and "%" in row.value, where)
                if isinstance(row, (ast.For, ast.While)):
                    self.assertEqual(row.orelse, [], where)
                if isinstance(row, ast.Pow):
                    self.fail(where)
                if isinstance(row, ast.Compare) and any(isinstance(sign, (ast.Is, ast.IsNot)) for sign in row.ops):
                    self.assertIn(ast.unparse(row.comparators[0]), ("None", "True", "False"), where)

    def test_defs(self):
        for path, tree in self.each():
            for deed in defs_of(tree):
                where = (path.name, deed.name)
                self.assertEqual(deed.decorator_list, [], where)
                self.assertIsNone(deed.args.vararg, where)
                self.assertIsNone(deed.args.kwarg, where)
                self.assertEqual(deed.args.posonlyargs, [], where)

    def test_names(self):
        for path, tree in self.each():
            taken = [row.name for row in tree.body if isinstance(row, ast.ClassDef)]
            taken += [each.name for row in imports_of(tree) for each in row.names]
            for deed in defs_of(tree):
                for name in given_names(deed):
                    self.assertNotIn(name, taken, (path.name, deed.name))
                    self.assertNotIn(name, top_names(tree), (path.name, deed.name))
                    self.assertFalse(hasattr(builtins, name), (path.name, deed.name, name))
                    self.assertNotIn(name, NOT_USED)
                    self.assertFalse(name.startswith("_"), (path.name, deed.name, name))
                if deed.name not in METHODS:
                    self.assertFalse(deed.name.startswith("_"), (path.name, deed.name))
                    self.assertFalse(hasattr(builtins, deed.name), (path.name, deed.name))
                    self.assertNotIn(deed.name, NOT_USED)

    def test_python_s_own_names(self):
        for path, tree in self.each():
            known = set(top_names(tree)) | OWN_NAMES
            for deed in defs_of(tree):
                known |= set(given_names(deed))
            for row in ast.walk(tree):
                if isinstance(row, ast.Name):
                    self.assertIn(row.id, known, (path.name, row.lineno))


if __name__ == "__main__":
    unittest.main()
