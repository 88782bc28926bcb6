"""The package keeps to the part of Python that it is to be written in (the rules' numbers stand with the tests)."""

import ast
import builtins
import io
import pathlib
import re
import tokenize
import unittest

PACKAGE = pathlib.Path(__file__).resolve().parent.parent / "tilewise"
FILES = sorted(PACKAGE.rglob("*.py"))
SOURCES = {path: path.read_text(encoding="utf-8") for path in FILES}
TREES = {path: ast.parse(source) for path, source in SOURCES.items()}

NODES = """Module Expr Assign AugAssign If While For Return Break Continue Pass Raise Try ExceptHandler FunctionDef
ClassDef arguments arg ImportFrom alias Call Name Attribute Subscript Slice Constant List Tuple Dict ListComp
comprehension BinOp UnaryOp BoolOp Compare IfExp Lambda keyword Load Store Add Sub Mult FloorDiv Mod BitOr BitXor BitAnd
LShift RShift Invert USub Not And Or Eq NotEq Lt LtE Gt GtE In NotIn Is IsNot""".split()
OWN_NAMES = """len range enumerate zip min max sum abs sorted reversed int str bool list tuple dict set frozenset isinstance
ord repr any all divmod Exception ValueError TypeError KeyError IndexError LookupError ZeroDivisionError
ArithmeticError OverflowError RuntimeError NotImplementedError AttributeError StopIteration""".split()
METHODS = """append clear copy count endswith extend find get index insert isalnum isalpha isdigit islower isspace isupper
items join keys ljust lower lstrip partition pop remove replace reverse rfind rjust rpartition rsplit rstrip setdefault
split splitlines startswith strip update upper values zfill bit_length""".split()
WORDS = """type typing typing_extensions enum Enum IntEnum StrEnum Flag IntFlag Generic Protocol ABC ABCMeta namedtuple
NamedTuple TypedDict TYPE_CHECKING abstractmethod""".split()
UNUSED = """register mro elements open input version_info with_traceback add_note attrgetter breakpoint builtins compile
copyright credits delattr dir eval exec exit gc getattr globals hasattr help id importlib license locals methodcaller os
quit setattr super type vars sys format format_map""".split()
BUILT_IN = [name for name in dir(builtins) if not name.startswith("__")]
WALKED = ("zip", "enumerate", "reversed", "range")
WALKERS = ("list", "tuple", "dict", "sorted", "sum", "any", "all", "enumerate", "zip", "min", "max")


def nodes():
    for path, tree in TREES.items():
        for node in ast.walk(tree):
            yield path.name, node


def bound_names(node):
    if isinstance(node, ast.Name) and isinstance(node.ctx, ast.Store):
        return [node.id]
    if isinstance(node, ast.arg):
        return [node.arg]
    if isinstance(node, (ast.FunctionDef, ast.ClassDef)):
        return [node.name]
    return []


def plain_value(node):
    if isinstance(node, (ast.List, ast.Tuple)):
        return all(plain_value(part) for part in node.elts)
    if isinstance(node, ast.UnaryOp):
        return isinstance(node.op, ast.USub) and plain_value(node.operand)
    return isinstance(node, ast.Constant)


class Language(unittest.TestCase):
    def test_files(self):  # L1, L14
        self.assertIn(PACKAGE / "__init__.py", FILES)
        for path in PACKAGE.iterdir():
            if path.name != "__pycache__":
                self.assertRegex(path.name, r"^(__init__|[a-z][a-z0-9_]*)\.py$")
                self.assertNotIn(path.stem, BUILT_IN)
                self.assertNotRegex(path.stem, r"^(tests?|testing|test_.*|site|conftest|sitecustomize|usercustomize)$")

    def test_signs_and_sizes(self):  # L10, L14
        for path, source in SOURCES.items():
            self.assertRegex(source, r"^[ -~\n]*$", path.name)
            self.assertLessEqual(source.count("\n"), 400, path.name)
            self.assertLessEqual(max(len(line) for line in source.split("\n")), 120, path.name)
        for name, node in nodes():
            if isinstance(node, ast.FunctionDef):
                self.assertLessEqual(node.end_lineno - node.lineno + 1, 40, (name, node.name))

    def test_top_of_each_file(self):  # L2, L3, L15, L16
        for path, tree in TREES.items():
            body = tree.body
            if body and isinstance(body[0], ast.Expr) and isinstance(body[0].value.value, str):
                body = body[1:]
            seen = []
            for node in body:
                self.assertIsInstance(node, (ast.ImportFrom, ast.FunctionDef, ast.ClassDef, ast.Assign), path.name)
                if isinstance(node, ast.Assign):
                    self.assertTrue(plain_value(node.value), (path.name, node.lineno))
                    seen += [target.id for target in node.targets]
                elif isinstance(node, ast.ImportFrom):
                    seen += [alias.name for alias in node.names]
                else:
                    seen.append(node.name)
            self.assertEqual(len(seen), len(set(seen)), path.name)

    def test_imports(self):  # L2, L16
        drawn = {}
        for path, tree in TREES.items():
            drawn[path.stem] = []
            for node in ast.walk(tree):
                if isinstance(node, ast.ImportFrom):
                    self.assertIn(node, tree.body)
                    self.assertEqual((node.level, node.module.split(".")[0]), (0, "tilewise"))
                    self.check_drawn(node)
                    drawn[path.stem].append(node.module.split(".")[1])
        while drawn:
            free = [stem for stem, others in drawn.items() if not [other for other in others if other in drawn]]
            self.assertTrue(free, f"these draw from one another: {sorted(drawn)}")
            drawn = {stem: others for stem, others in drawn.items() if stem not in free}

    def check_drawn(self, node):
        source = TREES[PACKAGE / (node.module.split(".")[1] + ".py")]
        defined = [part.name for part in source.body if isinstance(part, (ast.FunctionDef, ast.ClassDef))]
        defined += [part.targets[0].id for part in source.body if isinstance(part, ast.Assign)]
        for alias in node.names:
            self.assertIn(alias.name, defined)
            self.assertIsNone(alias.asname)

    def test_statements_and_values(self):  # L4 to L7, L21, L27
        for name, node in nodes():
            where = (name, getattr(node, "lineno", None))
            self.assertIn(node.__class__.__name__, NODES, where)
            if isinstance(node, (ast.FunctionDef, ast.ClassDef)):
                self.assertEqual(node.decorator_list, [], where)
            if isinstance(node, ast.arguments):
                self.assertEqual((node.vararg, node.kwarg, node.kwonlyargs, node.posonlyargs), (None, None, [], []))
            if isinstance(node, ast.arg):
                self.assertIsNone(node.annotation, where)
            if isinstance(node, ast.Assign):
                self.assertEqual(len(node.targets), 1, where)
            if isinstance(node, ast.Try):
                self.assertEqual(node.finalbody, [], where)
            if isinstance(node, (ast.For, ast.While)):
                self.assertEqual(node.orelse, [], where)
            if isinstance(node, ast.ListComp):
                self.assertEqual(len(node.generators), 1, where)
                self.assertLessEqual(len(node.generators[0].ifs), 1, where)
            if isinstance(node, ast.Constant):
                self.assertIn(node.value.__class__.__name__, ("int", "str", "bool", "NoneType"), where)

    def test_class_bodies(self):  # L5, L18
        methods, values = [], []
        for name, node in nodes():
            if isinstance(node, ast.ClassDef):
                for part in node.body:
                    self.assertIsInstance(part, (ast.FunctionDef, ast.Pass), (name, node.name))
                methods += [part.name for part in node.body if isinstance(part, ast.FunctionDef)]
                self.assertLessEqual(len(node.bases), 1)
            if isinstance(node, ast.Attribute) and isinstance(node.ctx, ast.Store):
                values.append(node.attr)
        self.assertEqual(set(methods) & set(values), set())
        for taken in set(methods + values) - {"__init__"}:
            for value in ("", 0, [], {}, set(), b""):
                self.assertFalse(hasattr(value, taken), taken)

    def test_names(self):  # L8, L12, L15, L17
        for path, tree in TREES.items():
            imported = [alias.name for node in ast.walk(tree) if isinstance(node, ast.ImportFrom) for alias in node.names]
            classes = [node.name for node in ast.walk(tree) if isinstance(node, ast.ClassDef)]
            for node in ast.walk(tree):
                for bound in bound_names(node):
                    self.assertRegex(bound, r"^([A-Za-z][A-Za-z0-9_]*|__init__)$", path.name)
                    self.assertNotIn(bound, BUILT_IN, path.name)
                    self.assertNotIn(bound, imported, path.name)
                    self.assertNotIn(bound, UNUSED, path.name)
                    if not isinstance(node, ast.ClassDef):
                        self.assertNotIn(bound, classes, path.name)
                if isinstance(node, ast.Name) and node.id in BUILT_IN:
                    self.assertIn(node.id, OWN_NAMES, path.name)

    def test_words(self):  # L17, L27
        for path, source in SOURCES.items():
            for word in re.findall(r"\w+", source):
                self.assertNotIn(word, WORDS, path.name)
                self.assertNotRegex(word, "dataclass|overload|contextmanager", path.name)
            for token in tokenize.generate_tokens(io.StringIO(source).readline):
                if token.type == tokenize.STRING:
                    self.assertNotIn("%", token.string, path.name)

    def test_methods(self):  # L25
        own = [node.name for _, node in nodes() if isinstance(node, ast.FunctionDef)]
        for name, node in nodes():
            if isinstance(node, ast.Call) and isinstance(node.func, ast.Attribute):
                self.assertIn(node.func.attr, METHODS + own, (name, node.lineno))

    def test_walked_at_once(self):  # L23
        right = []
        for _, node in nodes():
            if isinstance(node, (ast.For, ast.comprehension)):
                right.append(node.iter)
            if isinstance(node, ast.Call) and isinstance(node.func, ast.Name) and node.func.id in WALKERS:
                right += node.args[:1]
        for name, node in nodes():
            if isinstance(node, ast.Call) and isinstance(node.func, ast.Name) and node.func.id in WALKED:
                self.assertIn(node, right, (name, node.lineno))

    def test_is_beside_none_alone(self):  # L20
        for name, node in nodes():
            if isinstance(node, ast.Compare) and isinstance(node.ops[0], (ast.Is, ast.IsNot)):
                self.assertIsInstance(node.comparators[0], ast.Constant, name)


if __name__ == "__main__":
    unittest.main()
