"""The package keeps to its part of Python, as far as that can be read off its files."""

import ast
import builtins
import pathlib
import re
import unittest

PACKAGE = pathlib.Path(__file__).resolve().parent.parent / "keptalive"

NODES = """
Module Expr Assign AugAssign If While For Return Break Continue Pass Raise Try ExceptHandler FunctionDef ClassDef
ImportFrom alias arguments arg Lambda Constant Name Attribute Subscript Slice Load Store List Tuple Dict ListComp
comprehension BinOp UnaryOp BoolOp Compare IfExp Call keyword JoinedStr FormattedValue And Or Not USub Add Sub Mult
FloorDiv Mod Pow BitAnd BitOr BitXor Invert LShift RShift Eq NotEq Lt LtE Gt GtE In NotIn Is IsNot
""".split()

OWN_NAMES = """
len range enumerate zip min max sum abs sorted reversed int str bool list tuple dict set frozenset isinstance ord repr
any all divmod Exception ValueError TypeError KeyError IndexError LookupError ZeroDivisionError ArithmeticError
OverflowError RuntimeError NotImplementedError AttributeError StopIteration
""".split()

METHODS = """
append clear copy count endswith extend find get index insert isalnum isalpha isdigit islower isspace isupper items join
keys ljust lower lstrip partition pop remove replace reverse rfind rjust rpartition rsplit rstrip setdefault split
splitlines startswith strip update upper values zfill bit_length
""".split()

WORDS_NOWHERE = """
type typing typing_extensions enum Enum IntEnum StrEnum Flag IntFlag Generic Protocol ABC ABCMeta namedtuple NamedTuple
TypedDict TYPE_CHECKING abstractmethod
""".split()

NAMES_NOWHERE = """
register mro elements open input version_info with_traceback add_note attrgetter breakpoint builtins compile copyright
credits delattr dir eval exec exit gc getattr globals hasattr help id importlib license locals methodcaller os quit
setattr super vars sys
""".split()


def files():
    return sorted(PACKAGE.glob("**/*.py"))


def is_plain(node):
    """Whether a value at a file's top is a plain one."""
    if isinstance(node, (ast.List, ast.Tuple)):
        return all(is_plain(part) for part in node.elts)
    if isinstance(node, ast.Dict):
        return all(is_plain(part) for part in node.keys) and all(is_plain(part) for part in node.values)
    if isinstance(node, ast.UnaryOp):
        return isinstance(node.op, ast.USub) and is_plain(node.operand)
    return isinstance(node, (ast.Constant, ast.Name))


class Language(unittest.TestCase):
    def each(self):
        for file in files():
            text = file.read_text(encoding="utf-8")
            yield file.name, text, ast.parse(text)

    def test_files(self):
        found = [path for path in PACKAGE.rglob("*") if "__pycache__" not in path.parts]
        self.assertEqual(found and sorted(found), files())
        for path in found:
            self.assertRegex(path.name, r"^(__init__|[a-z][a-z0-9_]*)\.py$")
            self.assertNotIn(path.stem, dir(builtins))

    def test_signs_and_sizes(self):
        for name, text, tree in self.each():
            self.assertRegex(text, r"\A[ -~\n]*\Z", name)
            lines = text.split("\n")
            self.assertLessEqual(len(lines), 400, name)
            self.assertLessEqual(max(map(len, lines)), 120, name)
            for node in ast.walk(tree):
                if isinstance(node, ast.FunctionDef):
                    self.assertLessEqual(node.end_lineno - node.lineno + 1, 40, (name, node.name))

    def test_words_that_stand_nowhere(self):
        for name, text, tree in self.each():
            for word in WORDS_NOWHERE:
                self.assertNotRegex(text, rf"\b{word}\b", name)
            for word in ("dataclass", "overload", "contextmanager"):
                self.assertNotIn(word, text, name)

    def test_nodes(self):
        for name, text, tree in self.each():
            for node in ast.walk(tree):
                self.assertIn(type(node).__name__, NODES, (name, getattr(node, "lineno", 0)))
                if isinstance(node, ast.Constant):
                    self.assertIn(type(node.value), (int, str, bool, type(None)), (name, node.lineno))
                if isinstance(node, ast.Assign):
                    self.assertEqual(len(node.targets), 1, (name, node.lineno))
                    self.assertNotIsInstance(node.targets[0], ast.Tuple, (name, node.lineno))
                if isinstance(node, (ast.For, ast.While)):
                    self.assertEqual(node.orelse, [], (name, node.lineno))
                if isinstance(node, ast.ListComp):
                    self.assertEqual(len(node.generators), 1, (name, node.lineno))
                    self.assertLessEqual(len(node.generators[0].ifs), 1, (name, node.lineno))
                if isinstance(node, ast.Compare) and any(isinstance(op, (ast.Is, ast.IsNot)) for op in node.ops):
                    self.assertIsInstance(node.comparators[0], ast.Constant, (name, node.lineno))

    def test_top_of_a_file(self):
        for name, text, tree in self.each():
            bound = []
            for node in tree.body:
                kinds = (ast.Expr, ast.ImportFrom, ast.FunctionDef, ast.ClassDef, ast.Assign)
                self.assertIsInstance(node, kinds, (name, node.lineno))
                if isinstance(node, ast.Expr):
                    self.assertIs(node, tree.body[0], (name, node.lineno))
                if isinstance(node, ast.ImportFrom):
                    self.assertRegex(node.module, r"^keptalive\.[a-z]+$", (name, node.lineno))
                    self.assertEqual(node.level, 0, (name, node.lineno))
                    bound += [part.asname or part.name for part in node.names]
                if isinstance(node, (ast.FunctionDef, ast.ClassDef)):
                    self.assertEqual(node.decorator_list, [], (name, node.lineno))
                    bound.append(node.name)
                if isinstance(node, ast.Assign):
                    self.assertTrue(is_plain(node.value), (name, node.lineno))
                    bound.append(node.targets[0].id)
            self.assertEqual(len(bound), len(set(bound)), name)

    def test_names(self):
        for name, text, tree in self.each():
            taken = [node.name for node in ast.walk(tree) if isinstance(node, ast.ClassDef)]
            for node in tree.body:
                taken += [part.name for part in node.names] if isinstance(node, ast.ImportFrom) else []
            for node in ast.walk(tree):
                word = getattr(node, "id", None) or getattr(node, "arg", None) or getattr(node, "attr", None)
                if isinstance(node, (ast.FunctionDef, ast.ClassDef)):
                    word = node.name
                if word is None or word == "__init__":
                    continue
                self.assertRegex(word, r"^[A-Za-z][A-Za-z0-9_]*$", name)
                self.assertNotIn(word, NAMES_NOWHERE, name)
                stored = isinstance(node, ast.arg) or isinstance(node, ast.Name) and isinstance(node.ctx, ast.Store)
                if stored:
                    self.assertNotIn(word, taken + dir(builtins), (name, node.lineno))
                elif isinstance(node, ast.Name) and word in dir(builtins):
                    self.assertIn(word, OWN_NAMES, (name, node.lineno))

    def test_methods(self):
        for name, text, tree in self.each():
            for node in ast.walk(tree):
                if isinstance(node, ast.Call) and isinstance(node.func, ast.Attribute):
                    self.assertIn(node.func.attr, METHODS, (name, node.lineno))
                if isinstance(node, ast.FunctionDef):
                    given = node.args
                    self.assertFalse(given.vararg or given.kwarg or given.kwonlyargs or given.posonlyargs, node.name)

    def test_no_ring_of_imports(self):
        drawn = {}
        for name, text, tree in self.each():
            drawn[name[:-3]] = {found for found in re.findall(r"^from keptalive\.(\w+)", text, re.M)}
        while drawn:
            free = [name for name in drawn if not drawn[name] & set(drawn)]
            self.assertTrue(free, drawn)
            for name in free:
                drawn.pop(name)


if __name__ == "__main__":
    unittest.main()
