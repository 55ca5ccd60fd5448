"""Whether the package's files keep to the part of Python that the program is written in."""

import ast
import builtins
import os
import re
import unittest

ROOT = os.path.dirname(os.path.dirname(os.path.abspath(__file__)))
PACKAGE = os.path.join(ROOT, "seek")

OWN_NAMES = """len range enumerate zip min max sum abs sorted reversed int str bool list tuple dict set frozenset
isinstance ord repr any all divmod Exception ValueError TypeError KeyError IndexError LookupError ZeroDivisionError
ArithmeticError OverflowError RuntimeError NotImplementedError AttributeError StopIteration""".split()

METHODS = """append clear copy count endswith extend find get index insert isalnum isalpha isdigit islower isspace
isupper items join keys ljust lower lstrip partition pop remove replace reverse rfind rjust rpartition rsplit rstrip
setdefault split splitlines startswith strip update upper values zfill bit_length""".split()

CHANGING = "append clear extend insert pop remove reverse setdefault update".split()

WORDS = """type typing typing_extensions enum Enum IntEnum StrEnum Flag IntFlag Generic Protocol ABC ABCMeta namedtuple
NamedTuple TypedDict TYPE_CHECKING abstractmethod""".split()

NOT_USED = "register mro elements open input version_info with_traceback add_note args encode format format_map".split()

NODES = """Module FunctionDef ClassDef Return Assign AugAssign For While If Raise Try ExceptHandler ImportFrom alias Expr
Pass Break Continue BoolOp BinOp UnaryOp Lambda IfExp Dict ListComp comprehension Compare Call JoinedStr FormattedValue
Constant Attribute Subscript Name List Tuple Slice Set Load Store And Or Add Sub Mult FloorDiv Mod Pow LShift RShift
BitOr BitXor BitAnd Invert Not USub Eq NotEq Lt LtE Gt GtE Is IsNot In NotIn arguments arg keyword""".split()

NAMED = {"sorted": ["key", "reverse"], "min": ["key", "default"], "max": ["key", "default"], "sum": ["start"],
         "enumerate": ["start"], "zip": ["strict"]}


def files():
    found = {}
    for name in sorted(os.listdir(PACKAGE)):
        if name != "__pycache__":
            with open(os.path.join(PACKAGE, name), encoding="utf-8", newline="") as file:
                found[name] = file.read()
    return found


class Language(unittest.TestCase):
    def setUp(self):
        self.files = files()
        self.trees = {name: ast.parse(text) for name, text in self.files.items()}

    def nodes(self, *classes):
        for name, tree in self.trees.items():
            for node in ast.walk(tree):
                if isinstance(node, classes):
                    yield name, node

    def where(self, name, node):
        return name + ", line " + str(getattr(node, "lineno", 0))

    def test_files(self):
        self.assertIn("__init__.py", self.files)
        for name in self.files:
            self.assertRegex(name, r"\A([a-z][a-z0-9_]*|__init__)\.py\Z")

    def test_signs_and_sizes(self):
        for name, text in self.files.items():
            self.assertRegex(text, r"\A[ -~\n]*\Z", name)
            lines = text.splitlines()
            self.assertLessEqual(len(lines), 400, name)
            self.assertLessEqual(max(len(line) for line in lines), 120, name)
        for name, node in self.nodes(ast.FunctionDef):
            self.assertLessEqual(node.end_lineno - node.lineno + 1, 40, self.where(name, node))

    def test_words(self):
        for name, text in self.files.items():
            self.assertNotRegex(text, r"\b(" + "|".join(WORDS) + r")\b", name)
            self.assertNotRegex(text, "dataclass|overload|contextmanager", name)

    def test_nodes(self):
        for name, node in self.nodes(ast.AST):
            self.assertIn(type(node).__name__, NODES, self.where(name, node))

    def test_texts_and_numbers(self):
        for name, node in self.nodes(ast.Constant):
            self.assertIn(type(node.value), (int, str, bool, type(None)), self.where(name, node))
            if isinstance(node.value, str):
                self.assertNotIn("%", node.value, self.where(name, node))
        for name, text in self.files.items():
            self.assertNotRegex(text.replace("\\\\", ""), r"\\[^nt'\"]", name)

    def test_top_of_a_file(self):
        for name, tree in self.trees.items():
            bound = []
            self.assertTrue(ast.get_docstring(tree), name)
            for node in tree.body[1:]:
                where = self.where(name, node)
                self.assertIsInstance(node, (ast.ImportFrom, ast.FunctionDef, ast.ClassDef, ast.Assign), where)
                if isinstance(node, ast.Assign):
                    bound += [target.id for target in node.targets]
                    for part in ast.walk(node.value):
                        self.assertNotIsInstance(part, (ast.Call, ast.BinOp, ast.ListComp), where)
                elif isinstance(node, ast.ImportFrom):
                    bound += [alias.name for alias in node.names]
                else:
                    bound.append(node.name)
            self.assertEqual(len(bound), len(set(bound)), name)

    def test_imports(self):
        drawn = {}
        for name, node in self.nodes(ast.ImportFrom):
            where = self.where(name, node)
            self.assertEqual(node.level, 0, where)
            source = node.module[len("seek."):] + ".py"
            self.assertTrue(node.module.startswith("seek.") and source in self.files, where)
            defined = [getattr(item, "name", None) or item.targets[0].id for item in self.trees[source].body[1:]
                       if isinstance(item, (ast.FunctionDef, ast.ClassDef, ast.Assign))]
            for alias in node.names:
                self.assertIn(alias.name, defined, where)
                self.assertIsNone(alias.asname, where)
            drawn.setdefault(name, []).append(source)
        for name in drawn:
            reached = []
            pending = list(drawn[name])
            while pending:
                source = pending.pop()
                if source not in reached:
                    reached.append(source)
                    pending += drawn.get(source, [])
            self.assertNotIn(name, reached)

    def test_names(self):
        for name, tree in self.trees.items():
            bound = set()
            for node in ast.walk(tree):
                if isinstance(node, (ast.FunctionDef, ast.ClassDef)):
                    bound.add(node.name)
                elif isinstance(node, ast.arg):
                    bound.add(node.arg)
                elif isinstance(node, ast.alias):
                    bound.add(node.name)
                elif isinstance(node, ast.Name) and isinstance(node.ctx, ast.Store):
                    bound.add(node.id)
            for word in bound - {"__init__"}:
                self.assertRegex(word, r"\A[A-Za-z][A-Za-z0-9_]*\Z", name)
                self.assertNotIn(word, NOT_USED, name)
                self.assertFalse(word in dir(builtins) or word in OWN_NAMES, name + ": " + word)
            for node in ast.walk(tree):
                if isinstance(node, ast.Name) and node.id not in bound:
                    self.assertIn(node.id, OWN_NAMES, self.where(name, node))

    def test_functions(self):
        for name, node in self.nodes(ast.FunctionDef):
            where = self.where(name, node)
            arguments = node.args
            self.assertFalse(arguments.vararg or arguments.kwarg or arguments.kwonlyargs or arguments.posonlyargs, where)
            self.assertFalse(node.decorator_list, where)
        for name, node in self.nodes(ast.ClassDef):
            where = self.where(name, node)
            self.assertLessEqual(len(node.bases), 1, where)
            self.assertFalse(node.decorator_list or node.keywords, where)
            for item in node.body:
                self.assertIsInstance(item, (ast.FunctionDef, ast.Expr, ast.Pass), where)

    def test_statements(self):
        for name, node in self.nodes(ast.Assign):
            self.assertEqual(len(node.targets), 1, self.where(name, node))
        for name, node in self.nodes(ast.For, ast.While):
            self.assertFalse(node.orelse, self.where(name, node))
        for name, node in self.nodes(ast.Try):
            self.assertFalse(node.finalbody, self.where(name, node))
        for name, node in self.nodes(ast.ExceptHandler):
            self.assertIsNotNone(node.type, self.where(name, node))
            self.assertNotIn(ast.unparse(node.type), ("Exception", "TypeError"), self.where(name, node))
        for name, node in self.nodes(ast.ListComp):
            self.assertEqual(len(node.generators), 1, self.where(name, node))
            self.assertLessEqual(len(node.generators[0].ifs), 1, self.where(name, node))
        for name, node in self.nodes(ast.Compare):
            for sort, other in zip(node.ops, node.comparators):
                if isinstance(sort, (ast.Is, ast.IsNot)):
                    self.assertIn(ast.unparse(other), ("None", "True", "False"), self.where(name, node))

    def test_methods_and_values(self):
        methods = {node.name for _, node in self.nodes(ast.FunctionDef)}
        values = set()
        for name, node in self.nodes(ast.Attribute):
            self.assertNotIn(node.attr, NOT_USED, self.where(name, node))
            if isinstance(node.ctx, ast.Store):
                values.add(node.attr)
        own = set()
        for _, node in self.nodes(ast.ClassDef):
            own |= {item.name for item in node.body if isinstance(item, ast.FunctionDef)}
        self.assertFalse(own & values)
        python_has = set()
        for value in ["", 0, [], {}, set(), b"", ()]:
            python_has |= set(dir(value))
        self.assertFalse((own - {"__init__"}) & (python_has - set(METHODS)))
        self.assertFalse(values & python_has)
        for name, node in self.nodes(ast.Attribute):
            if node.attr not in values:
                self.assertTrue(node.attr in METHODS or node.attr in methods, self.where(name, node))

    def test_calls(self):
        for name, node in self.nodes(ast.Call):
            called = ast.unparse(node.func)
            for word in node.keywords:
                if called in OWN_NAMES or isinstance(node.func, ast.Attribute) and node.func.attr in METHODS:
                    self.assertIn(word.arg, NAMED.get(called, []), self.where(name, node))

    def test_what_a_file_keeps_is_only_read(self):
        for name, tree in self.trees.items():
            kept = [node.targets[0].id for node in tree.body
                    if isinstance(node, ast.Assign) and isinstance(node.value, (ast.List, ast.Dict))]
            for node in ast.walk(tree):
                where = self.where(name, node)
                if isinstance(node, ast.Subscript) and isinstance(node.ctx, ast.Store):
                    self.assertNotIn(ast.unparse(node.value), kept, where)
                if isinstance(node, ast.Attribute) and node.attr in CHANGING:
                    self.assertNotIn(ast.unparse(node.value), kept, where)
                if isinstance(node, (ast.Return, ast.Assign)) and node.value is not None:
                    self.assertNotIn(ast.unparse(node.value), kept, where)


if __name__ == "__main__":
    unittest.main()
