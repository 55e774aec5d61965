"""What can be told by looking of the rules for the package's own files."""

import ast
import pathlib
import re
import unittest

FOLDER = pathlib.Path(__file__).resolve().parent.parent / "fitparts"
FILES = sorted(FOLDER.glob("*.py"))
BUILT_IN = """len range enumerate zip min max sum abs sorted reversed int str bool list tuple dict set frozenset isinstance
ord repr any all divmod Exception ValueError TypeError KeyError IndexError LookupError ZeroDivisionError ArithmeticError
OverflowError RuntimeError NotImplementedError AttributeError StopIteration""".split()
METHODS = """append clear copy count endswith extend find get index insert isalnum isalpha isdigit islower isspace isupper
items join keys ljust lower lstrip partition pop remove replace reverse rfind rjust rpartition rsplit rstrip setdefault
split splitlines startswith strip update upper values zfill bit_length __init__""".split()
STATEMENTS = (ast.Assign, ast.AugAssign, ast.If, ast.While, ast.For, ast.Return, ast.Break, ast.Continue, ast.Pass,
              ast.Raise, ast.Try, ast.Expr, ast.FunctionDef, ast.ClassDef, ast.ImportFrom)
NO_NODES = (ast.Div, ast.JoinedStr, ast.SetComp, ast.DictComp, ast.GeneratorExp, ast.Starred, ast.NamedExpr, ast.Lambda,
            ast.Yield, ast.Await, ast.Pow, ast.Set)
NO_WORDS = re.compile(r"\b(type|typing|typing_extensions|enum|Enum|IntEnum|StrEnum|Flag|IntFlag|Generic|Protocol|ABC|ABCMeta"
                      r"|namedtuple|NamedTuple|TypedDict|TYPE_CHECKING|abstractmethod)\b|dataclass|overload|contextmanager")


def bound_in(function):
    """The names that a function binds."""
    names = [argument.arg for argument in function.args.args]
    for node in ast.walk(function):
        if isinstance(node, ast.Name) and isinstance(node.ctx, ast.Store):
            names.append(node.id)
        if isinstance(node, ast.ExceptHandler) and node.name:
            names.append(node.name)
    return set(names)


class Language(unittest.TestCase):

    def trees(self):
        for path in FILES:
            source = path.read_text()
            yield path.name, source, ast.parse(source)

    def test_files(self):
        self.assertTrue((FOLDER / "__init__.py").exists())
        others = [path.name for path in FOLDER.iterdir() if path not in FILES and path.name != "__pycache__"]
        self.assertEqual(others, [])

    def test_sizes_and_signs(self):
        for name, source, tree in self.trees():
            lines = source.split("\n")
            self.assertLessEqual(len(lines), 401, name)
            self.assertLessEqual(max(len(line) for line in lines), 120, name)
            self.assertTrue(all(sign == "\n" or " " <= sign <= "~" for sign in source), name)
            self.assertIsNone(NO_WORDS.search(source), name)
            for node in ast.walk(tree):
                if isinstance(node, ast.FunctionDef):
                    self.assertLessEqual(node.end_lineno - node.lineno + 1, 40, (name, node.name))

    def test_statements_and_expressions(self):
        for name, source, tree in self.trees():
            for node in ast.walk(tree):
                where = (name, getattr(node, "lineno", 0))
                if isinstance(node, ast.stmt):
                    self.assertIsInstance(node, STATEMENTS, where)
                self.assertNotIsInstance(node, NO_NODES, where)
                if isinstance(node, (ast.For, ast.While)):
                    self.assertEqual(node.orelse, [], where)
                if isinstance(node, ast.Assign):
                    self.assertEqual(len(node.targets), 1, where)
                    self.assertNotIsInstance(node.targets[0], ast.Tuple, where)
                if isinstance(node, ast.ListComp):
                    self.assertEqual(len(node.generators), 1, where)
                if isinstance(node, ast.Compare) and isinstance(node.ops[0], (ast.Is, ast.IsNot)):
                    self.assertIsInstance(node.comparators[0], ast.Constant, where)
                if isinstance(node, ast.FunctionDef):
                    self.assertEqual(node.decorator_list, [], where)
                if isinstance(node, ast.Constant):
                    self.assertIsInstance(node.value, (int, str, type(None)), where)

    def test_names(self):
        builtins = set(dir(__import__("builtins")))
        for name, source, tree in self.trees():
            tops = [node.name for node in tree.body if isinstance(node, (ast.FunctionDef, ast.ClassDef))]
            tops += [alias.name for node in tree.body if isinstance(node, ast.ImportFrom) for alias in node.names]
            tops += [node.targets[0].id for node in tree.body if isinstance(node, ast.Assign)]
            self.assertEqual(len(tops), len(set(tops)), name)
            self.assertEqual(set(tops) & builtins, set(), name)
            for node in ast.walk(tree):
                if isinstance(node, ast.FunctionDef):
                    self.assertEqual(bound_in(node) & (builtins | set(tops)), set(), (name, node.name))
                if isinstance(node, ast.Name) and node.id in builtins:
                    self.assertIn(node.id, BUILT_IN, (name, node.lineno))
                if isinstance(node, ast.Name):
                    self.assertFalse(node.id.startswith("_"), (name, node.lineno))

    def test_methods(self):
        for name, source, tree in self.trees():
            for node in ast.walk(tree):
                if isinstance(node, ast.Call) and isinstance(node.func, ast.Attribute):
                    self.assertIn(node.func.attr, METHODS, (name, node.lineno))

    def test_imports(self):
        drawn = {}
        for name, source, tree in self.trees():
            drawn[name[:-3]] = set()
            for node in tree.body:
                if isinstance(node, ast.ImportFrom):
                    self.assertTrue(node.module.startswith("fitparts."), name)
                    file = node.module[len("fitparts."):]
                    drawn[name[:-3]].add(file)
                    defined = ast.parse((FOLDER / f"{file}.py").read_text()).body
                    names = [top.name for top in defined if isinstance(top, (ast.FunctionDef, ast.ClassDef))]
                    names += [top.targets[0].id for top in defined if isinstance(top, ast.Assign)]
                    used = {part.id for part in ast.walk(tree) if isinstance(part, ast.Name)}
                    for alias in node.names:
                        self.assertIn(alias.name, names, name)
                        self.assertIn(alias.name, used, name)
        while drawn:
            free = [file for file in drawn if not drawn[file] & set(drawn)]
            self.assertTrue(free, f"files that draw from one another: {sorted(drawn)}")
            for file in free:
                drawn.pop(file)


if __name__ == "__main__":
    unittest.main()
