"""The rules of the language that can be seen by going through the package's files."""

import ast
import re
import unittest
from pathlib import Path

PACKAGE = Path(__file__).resolve().parent.parent / "mappedgraphs"

STATEMENTS = (ast.Module, ast.FunctionDef, ast.ClassDef, ast.ImportFrom, ast.Assign, ast.AugAssign, ast.If, ast.While,
              ast.For, ast.Return, ast.Break, ast.Continue, ast.Pass, ast.Raise, ast.Try, ast.Expr)
EXPRESSIONS = (ast.Constant, ast.Name, ast.Attribute, ast.Subscript, ast.Slice, ast.Call, ast.List, ast.Tuple, ast.Dict,
               ast.ListComp, ast.Lambda, ast.IfExp, ast.BoolOp, ast.BinOp, ast.UnaryOp, ast.Compare, ast.JoinedStr,
               ast.FormattedValue)
OWN_NAMES = """len range enumerate zip min max sum abs sorted reversed int str bool list tuple dict set frozenset
    isinstance ord repr any all divmod Exception ValueError TypeError KeyError IndexError LookupError ZeroDivisionError
    ArithmeticError OverflowError RuntimeError NotImplementedError AttributeError StopIteration""".split()
OWN_METHODS = """append clear copy count endswith extend find get index insert isalnum isalpha isdigit islower isspace
    isupper items join keys ljust lower lstrip partition pop remove replace reverse rfind rjust rpartition rsplit rstrip
    setdefault split splitlines startswith strip update upper values zfill bit_length""".split()
WORDS = re.compile(r"\b(type|typing|typing_extensions|enum|Enum|IntEnum|StrEnum|Flag|IntFlag|Generic|Protocol|ABC|"
                   r"ABCMeta|namedtuple|NamedTuple|TypedDict|TYPE_CHECKING|abstractmethod)\b|"
                   r"dataclass|overload|contextmanager")
UNUSED = """register mro elements open input version_info with_traceback add_note attrgetter breakpoint builtins compile
    copyright credits delattr dir eval exec exit gc getattr globals hasattr help id importlib license locals methodcaller
    os quit setattr super type vars sys chr print format format_map""".split()
WALKED_AT_ONCE = ("zip", "enumerate", "reversed", "range", "items", "keys", "values")
WALKERS = ("list", "tuple", "dict", "sorted", "sum", "any", "all", "enumerate", "zip", "min", "max")
PYTHONS_OWN = set(dir(__builtins__) if not isinstance(__builtins__, dict) else __builtins__)


def bound_names(tree):
    names = []
    for node in ast.walk(tree):
        if isinstance(node, (ast.FunctionDef, ast.ClassDef)):
            names.append(node.name)
        if isinstance(node, ast.arg):
            names.append(node.arg)
        if isinstance(node, ast.Name) and isinstance(node.ctx, ast.Store):
            names.append(node.id)
        if isinstance(node, ast.ImportFrom):
            names.extend(alias.name for alias in node.names)
    return names


def called(node):
    """The name by which a call is made, or None where it is none."""
    if not isinstance(node, ast.Call):
        return None
    return node.func.id if isinstance(node.func, ast.Name) else getattr(node.func, "attr", None)


def names_at_top(tree):
    names = []
    for node in tree.body:
        names.extend(bound_names(node) if isinstance(node, (ast.ImportFrom, ast.Assign)) else [])
        names.extend([node.name] if isinstance(node, (ast.FunctionDef, ast.ClassDef)) else [])
    return names


class Language(unittest.TestCase):
    def setUp(self):
        self.texts = {path: path.read_text(encoding="utf-8") for path in sorted(PACKAGE.glob("*.py"))}
        self.trees = {path: ast.parse(text) for path, text in self.texts.items()}

    def each_node(self):
        for path, tree in self.trees.items():
            for node in ast.walk(tree):
                yield f"{path.name}:{getattr(node, 'lineno', 0)}", node

    def test_files(self):
        lying = [path for path in PACKAGE.iterdir() if path.name != "__pycache__"]
        self.assertIn(PACKAGE / "__init__.py", lying)
        for path in lying:
            self.assertRegex(path.name, r"^([a-z][a-z0-9_]*|__init__)\.py$")
            self.assertNotIn(path.stem, PYTHONS_OWN)

    def test_signs_and_size(self):
        for path, text in self.texts.items():
            self.assertRegex(text, r"^[ -~\n]*$", path.name)
            self.assertIsNone(WORDS.search(text), path.name)
            lines = text.splitlines()
            self.assertLessEqual(len(lines), 400, path.name)
            self.assertLessEqual(max(map(len, lines)), 120, path.name)

    def test_statements_and_expressions(self):
        for where, node in self.each_node():
            if isinstance(node, ast.stmt):
                self.assertIsInstance(node, STATEMENTS, where)
            if isinstance(node, ast.expr):
                self.assertIsInstance(node, EXPRESSIONS, where)
            if isinstance(node, (ast.FunctionDef, ast.ClassDef)):
                self.assertIsNone(ast.get_docstring(node), where)
            if isinstance(node, ast.BinOp):
                self.assertNotIsInstance(node.op, (ast.Div, ast.MatMult, ast.Pow), where)
            if isinstance(node, ast.Constant):
                self.assertIn(type(node.value), (int, str, bool, type(None)), where)
            if isinstance(node, ast.Assign):
                self.assertEqual(len(node.targets), 1, where)
                self.assertNotIsInstance(node.targets[0], ast.Tuple, where)
            if isinstance(node, ast.ListComp):
                self.assertEqual(len(node.generators), 1, where)
                self.assertLessEqual(len(node.generators[0].ifs), 1, where)
            if isinstance(node, (ast.While, ast.For)):
                self.assertEqual(node.orelse, [], where)

    def test_functions(self):
        for where, node in self.each_node():
            if isinstance(node, ast.FunctionDef):
                self.assertLessEqual(node.end_lineno - node.lineno + 1, 40, where)
                self.assertEqual(node.decorator_list, [], where)
                given = node.args
                self.assertEqual((given.vararg, given.kwarg, given.kwonlyargs, given.posonlyargs), (None, None, [], []))

    def test_names(self):
        for path, tree in self.trees.items():
            for name in bound_names(tree):
                self.assertRegex(name, r"^([A-Za-z][A-Za-z0-9_]*|__init__)$", path.name)
                self.assertNotIn(name, PYTHONS_OWN, path.name)

    def test_own_names_and_methods(self):
        methods = [node.name for where, node in self.each_node() if isinstance(node, ast.FunctionDef)]
        for path, tree in self.trees.items():
            known = set(bound_names(tree)) | set(OWN_NAMES)
            for node in ast.walk(tree):
                if isinstance(node, ast.Name):
                    self.assertIn(node.id, known, path.name)
                if isinstance(node, ast.Call) and isinstance(node.func, ast.Attribute):
                    self.assertIn(node.func.attr, OWN_METHODS + methods, path.name)

    def test_names_that_are_not_used(self):
        for where, node in self.each_node():
            if isinstance(node, ast.Name):
                self.assertNotIn(node.id, UNUSED, where)
            if isinstance(node, ast.Attribute):
                self.assertNotIn(node.attr, UNUSED, where)

    def test_each_name_once(self):
        for path, tree in self.trees.items():
            top = names_at_top(tree)
            self.assertEqual(len(top), len(set(top)), path.name)
            imports_and_classes = [alias.name for node in tree.body if isinstance(node, ast.ImportFrom)
                                   for alias in node.names]
            imports_and_classes += [node.name for node in tree.body if isinstance(node, ast.ClassDef)]
            for outer in tree.body:
                if isinstance(outer, (ast.FunctionDef, ast.ClassDef)):
                    for node in outer.body + getattr(getattr(outer, "args", None), "args", []):
                        self.assertFalse(set(bound_names(node)) & set(imports_and_classes), path.name)

    def test_is(self):
        for where, node in self.each_node():
            if isinstance(node, ast.Compare) and any(isinstance(op, (ast.Is, ast.IsNot)) for op in node.ops):
                for other in node.comparators:
                    self.assertIsInstance(other, ast.Constant, where)
                    self.assertIn(other.value, (None, True, False), where)

    def test_walked_at_once(self):
        for path, tree in self.trees.items():
            walked = []
            for node in ast.walk(tree):
                if isinstance(node, (ast.For, ast.comprehension)):
                    walked.append(node.iter)
                if called(node) in WALKERS:
                    walked.extend(node.args[:1])
            for node in ast.walk(tree):
                if called(node) in WALKED_AT_ONCE:
                    self.assertIn(node, walked, f"{path.name}:{node.lineno}")

    def test_sets(self):
        for path, tree in self.trees.items():
            asked = []
            for node in ast.walk(tree):
                if called(node) in ("len", "sorted"):
                    asked.extend(node.args)
                if isinstance(node, ast.Compare):
                    asked.extend([node.left] + node.comparators)
            for node in ast.walk(tree):
                if called(node) in ("set", "frozenset"):
                    self.assertIn(node, asked, f"{path.name}:{node.lineno}")

    def test_keywords_and_texts(self):
        for where, node in self.each_node():
            if isinstance(node, ast.Call) and node.keywords:
                self.assertIn(called(node), ("sorted", "min", "max", "sum", "enumerate", "zip"), where)
            if isinstance(node, ast.Constant) and isinstance(node.value, str):
                self.assertNotIn("%", node.value, where)

    def test_imports(self):
        drawn = {path.stem: [node.module for node in tree.body if isinstance(node, ast.ImportFrom)]
                 for path, tree in self.trees.items()}
        for stem, modules in drawn.items():
            for module in modules:
                self.assertRegex(module, r"^mappedgraphs\.[a-z_]+$", stem)
        left = {stem: {module.split(".")[1] for module in modules} for stem, modules in drawn.items()}
        while left:
            free = [stem for stem, needs in left.items() if not needs & set(left)]
            self.assertNotEqual(free, [], "files draw from one another")
            left = {stem: needs for stem, needs in left.items() if stem not in free}


if __name__ == "__main__":
    unittest.main()
