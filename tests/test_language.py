"""The package's files keep to the small part of Python, as far as a short walk can see it."""

import ast
import pathlib
import re
import unittest

PACKAGE = pathlib.Path(__file__).resolve().parent.parent / "lutesigns"
FILES = sorted(PACKAGE.glob("*.py"))
NAMES = set(
    "len range enumerate zip min max sum abs sorted reversed int str bool list tuple dict set frozenset isinstance "
    "ord repr any all divmod Exception ValueError TypeError KeyError IndexError LookupError ZeroDivisionError "
    "ArithmeticError OverflowError RuntimeError NotImplementedError AttributeError StopIteration".split()
)
METHODS = set(
    "append clear copy count endswith extend find get index insert isalnum isalpha isdigit islower isspace isupper "
    "items join keys ljust lower lstrip partition pop remove replace reverse rfind rjust rpartition rsplit rstrip "
    "setdefault split splitlines startswith strip update upper values zfill bit_length".split()
)
WORDS = re.compile(
    r"\b(type|typing|typing_extensions|enum|Enum|IntEnum|StrEnum|Flag|IntFlag|Generic|Protocol|ABC|ABCMeta|namedtuple"
    r"|NamedTuple|TypedDict|TYPE_CHECKING|abstractmethod)\b|dataclass|overload|contextmanager"
)
ALLOWED = (
    ast.Module, ast.ImportFrom, ast.alias, ast.FunctionDef, ast.ClassDef, ast.arguments, ast.arg, ast.Assign,
    ast.AugAssign, ast.If, ast.While, ast.For, ast.Return, ast.Break, ast.Continue, ast.Pass, ast.Raise, ast.Try,
    ast.ExceptHandler, ast.Expr, ast.Constant, ast.List, ast.Tuple, ast.Dict, ast.Name, ast.Attribute, ast.Subscript,
    ast.Slice, ast.Call, ast.keyword, ast.BinOp, ast.UnaryOp, ast.BoolOp, ast.Compare, ast.IfExp, ast.ListComp,
    ast.comprehension, ast.Lambda, ast.JoinedStr, ast.FormattedValue, ast.operator, ast.unaryop, ast.boolop, ast.cmpop,
    ast.expr_context,
)


class Language(unittest.TestCase):
    def trees(self):
        for file in FILES:
            tree = ast.parse(file.read_text())
            for node in ast.walk(tree):
                yield file, tree, node

    def where(self, file, node):
        return "%s:%s" % (file.name, getattr(node, "lineno", 0))

    def test_files(self):
        lying = [path.name for path in PACKAGE.iterdir() if path.name != "__pycache__"]
        self.assertEqual(sorted(lying), [file.name for file in FILES])
        self.assertIn("__init__.py", lying)
        for file in FILES:
            text = file.read_text()
            self.assertRegex(file.name, r"^[a-z0-9_]+\.py$")
            self.assertLessEqual(len(text.splitlines()), 400, file.name)
            self.assertRegex(text, r"\A[ -~\n]*\Z", file.name)
            self.assertIsNone(WORDS.search(text), file.name)
            for row in text.splitlines():
                self.assertLessEqual(len(row), 120, row)

    def test_nodes(self):
        for file, tree, node in self.trees():
            self.assertIsInstance(node, ALLOWED, self.where(file, node))
            self.assertNotIsInstance(node, (ast.Div, ast.MatMult), self.where(file, node))
            if isinstance(node, ast.Constant):
                self.assertIn(type(node.value), (int, str, bool, type(None)), self.where(file, node))
            if isinstance(node, ast.Assign):
                self.assertEqual(len(node.targets), 1, self.where(file, node))
            if isinstance(node, (ast.For, ast.While)):
                self.assertEqual(node.orelse, [], self.where(file, node))
            if isinstance(node, ast.Try):
                self.assertEqual(node.finalbody, [], self.where(file, node))
            if isinstance(node, ast.ListComp):
                self.assertEqual(len(node.generators), 1, self.where(file, node))
            if isinstance(node, ast.FunctionDef):
                self.assertLessEqual(node.end_lineno - node.lineno + 1, 40, self.where(file, node))
                self.assertEqual(node.decorator_list, [], self.where(file, node))

    def test_imports(self):
        for file, tree, node in self.trees():
            if isinstance(node, ast.ImportFrom):
                self.assertIn(node, tree.body, self.where(file, node))
                self.assertEqual(node.level, 0, self.where(file, node))
                self.assertTrue(node.module.startswith("lutesigns."), self.where(file, node))
                self.assertTrue(all(one.name != "*" for one in node.names), self.where(file, node))

    def test_names(self):
        for file, tree, node in self.trees():
            if isinstance(node, ast.Name) and isinstance(node.ctx, ast.Load):
                known = node.id in NAMES or node.id in self.bound(tree)
                self.assertTrue(known, self.where(file, node))
            if isinstance(node, (ast.Name, ast.arg)) and not isinstance(getattr(node, "ctx", None), ast.Load):
                name = node.id if isinstance(node, ast.Name) else node.arg
                self.assertRegex(name, r"^[A-Za-z]\w*$", self.where(file, node))
                self.assertNotIn(name, dir(__builtins__) if not isinstance(__builtins__, dict) else __builtins__)

    def bound(self, tree):
        names = set()
        for node in ast.walk(tree):
            if isinstance(node, ast.Name) and isinstance(node.ctx, ast.Store):
                names.add(node.id)
            elif isinstance(node, ast.arg):
                names.add(node.arg)
            elif isinstance(node, (ast.FunctionDef, ast.ClassDef, ast.alias, ast.ExceptHandler)) and node.name:
                names.add(node.name)
        return names

    def test_no_local_hides_a_class_or_an_import(self):
        for file in FILES:
            tree = ast.parse(file.read_text())
            top = {one.name for node in tree.body if isinstance(node, ast.ImportFrom) for one in node.names}
            top |= {node.name for node in tree.body if isinstance(node, ast.ClassDef)}
            for function in ast.walk(tree):
                if isinstance(function, (ast.FunctionDef, ast.Lambda)):
                    self.assertEqual(self.bound(function) & top, set(), self.where(file, function))

    def test_top_names_are_bound_once(self):
        for file in FILES:
            names = []
            for node in ast.parse(file.read_text()).body:
                if isinstance(node, ast.Assign):
                    names.append(node.targets[0].id)
                    self.assertNotIsInstance(node.value, (ast.List, ast.Dict, ast.Call), self.where(file, node))
                elif isinstance(node, ast.ImportFrom):
                    names.extend(one.asname or one.name for one in node.names)
                elif isinstance(node, (ast.FunctionDef, ast.ClassDef)):
                    names.append(node.name)
            self.assertEqual(len(set(names)), len(names), file.name)

    def test_texts_and_comparisons(self):
        for file, tree, node in self.trees():
            if isinstance(node, ast.Constant) and isinstance(node.value, str):
                self.assertNotIn("%", node.value, self.where(file, node))
            if isinstance(node, ast.Compare):
                for op, right in zip(node.ops, node.comparators):
                    if isinstance(op, (ast.Is, ast.IsNot)):
                        self.assertIsInstance(right, ast.Constant, self.where(file, node))
            if isinstance(node, ast.Try):
                for handler in node.handlers:
                    self.assertIsInstance(handler.type, ast.Name, self.where(file, node))
                    self.assertNotIn(handler.type.id, ("Exception", "TypeError"), self.where(file, node))

    def test_no_two_files_draw_from_one_another(self):
        drawn = {}
        for file, tree, node in self.trees():
            if isinstance(node, ast.ImportFrom):
                drawn.setdefault(file.stem, set()).add(node.module.split(".")[1])
        while drawn:
            free = [name for name in drawn if not drawn[name] & set(drawn)]
            self.assertNotEqual(free, [], drawn)
            for name in free:
                del drawn[name]

    def test_methods(self):
        own = {node.name for file, tree, node in self.trees() if isinstance(node, ast.FunctionDef)}
        for file, tree, node in self.trees():
            if isinstance(node, ast.Call) and isinstance(node.func, ast.Attribute):
                self.assertIn(node.func.attr, METHODS | own, self.where(file, node))


if __name__ == "__main__":
    unittest.main()
