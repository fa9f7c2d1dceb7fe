"""The form of the package's files: what of the language's rules (L1 to L28) a walk over the syntax can see."""

import ast
import builtins
import pathlib
import re
import unittest

PACKAGE = pathlib.Path(__file__).resolve().parent.parent / "relayleases"

GRANTED_NAMES = set("""
    len range enumerate zip min max sum abs sorted reversed int str bool list tuple dict set frozenset isinstance ord
    repr any all divmod Exception ValueError TypeError KeyError IndexError LookupError ZeroDivisionError
    ArithmeticError OverflowError RuntimeError NotImplementedError AttributeError StopIteration
""".split())

GRANTED_METHODS = set("""
    append clear copy count endswith extend find get index insert isalnum isalpha isdigit islower isspace isupper items
    join keys ljust lower lstrip partition pop remove replace reverse rfind rjust rpartition rsplit rstrip setdefault
    split splitlines startswith strip update upper values zfill bit_length
""".split())

GRANTED_NODES = set("""
    Module Import ImportFrom alias FunctionDef ClassDef arguments arg Lambda Assign AugAssign If While For Return Break
    Continue Pass Raise Try ExceptHandler Expr Constant List Tuple Dict Set BinOp UnaryOp BoolOp Compare IfExp Call
    keyword Attribute Subscript Slice ListComp comprehension JoinedStr FormattedValue Name Load Store
    Add Sub Mult FloorDiv Mod Pow BitAnd BitOr BitXor LShift RShift Invert Not USub UAdd And Or
    Eq NotEq Lt LtE Gt GtE Is IsNot In NotIn
""".split())

WORDS_NOWHERE = re.compile(
    r"\b(type|typing|typing_extensions|enum|Enum|IntEnum|StrEnum|Flag|IntFlag|Generic|Protocol|ABC|ABCMeta|namedtuple|"
    r"NamedTuple|TypedDict|TYPE_CHECKING|abstractmethod)\b|dataclass|overload|contextmanager")

NAMES_NOWHERE = set("""
    register mro elements open input version_info with_traceback add_note format format_map encode attrgetter
    breakpoint builtins compile copyright credits delattr dir eval exec exit gc getattr globals hasattr help id
    importlib license locals methodcaller os quit setattr super vars sys
""".split())

DUNDERS = ("__init__", "__eq__", "__repr__", "__str__", "__len__")


def plain(value, functions):
    """Tell whether a value of a file's top is a plain one, or a list, tuple or dict of such and of functions."""
    if isinstance(value, ast.Constant):
        return value.value is None or isinstance(value.value, (int, str))
    if isinstance(value, ast.UnaryOp):
        return isinstance(value.op, ast.USub) and isinstance(value.operand, ast.Constant)
    if isinstance(value, ast.Name):
        return value.id in functions
    if isinstance(value, (ast.List, ast.Tuple)):
        return all(plain(part, functions) for part in value.elts)
    if isinstance(value, ast.Dict):
        return all(part is not None and plain(part, functions) for part in value.keys + value.values)
    return False


class FormTest(unittest.TestCase):
    @classmethod
    def setUpClass(cls):
        cls.texts = {path.stem: path.read_bytes().decode("utf-8") for path in sorted(PACKAGE.glob("*.py"))}
        cls.trees = {stem: ast.parse(text) for stem, text in cls.texts.items()}

    def nodes(self, *kinds):
        """All nodes of these kinds, each with its file and line for the report."""
        return [(node, f"{stem}:{getattr(node, 'lineno', 0)}") for stem, tree in self.trees.items()
                for node in ast.walk(tree) if isinstance(node, kinds)]

    def test_files(self):
        for path in PACKAGE.iterdir():
            if path.name != "__pycache__":
                self.assertRegex(path.name, r"\A([a-z][a-z0-9_]*|__init__|__main__)\.py\Z")
                self.assertNotRegex(path.name, r"\A(test|tests|testing|test_.*|site|conftest)\.py\Z")
                self.assertFalse(path.stem[0] != "_" and hasattr(builtins, path.stem), path.name)
        self.assertIn("__init__", self.texts)
        self.assertIn("world", self.texts)

    def test_signs_and_sizes(self):
        for stem, text in self.texts.items():
            self.assertRegex(text, r"\A[ -~\n]*\Z", stem)
            self.assertIsNone(WORDS_NOWHERE.search(text), stem)
            self.assertLessEqual(text.count("\n"), 400, stem)
            self.assertLessEqual(max(map(len, text.split("\n"))), 120, stem)
        for node, where in self.nodes(ast.FunctionDef):
            self.assertLessEqual(node.end_lineno - node.lineno + 1, 40, where)

    def test_statements_and_expressions(self):
        for node, where in self.nodes(ast.AST):
            self.assertIn(node.__class__.__name__, GRANTED_NODES, where)
        for node, where in self.nodes(ast.Assign):
            self.assertEqual(len(node.targets), 1, where)
            self.assertNotIsInstance(node.targets[0], (ast.Tuple, ast.List), where)
        for node, where in self.nodes(ast.For, ast.While):
            self.assertEqual(node.orelse, [], where)
        for node, where in self.nodes(ast.Try):
            self.assertEqual(node.finalbody, [], where)
        for node, where in self.nodes(ast.Expr):
            self.assertTrue(isinstance(node.value, ast.Call) or isinstance(getattr(node.value, "value", None), str),
                            where)
        for node, where in self.nodes(ast.ListComp):
            self.assertEqual(len(node.generators), 1, where)
            self.assertLessEqual(len(node.generators[0].ifs), 1, where)
        for node, where in self.nodes(ast.Constant):
            self.assertNotIsInstance(node.value, (float, complex, bytes), where)
        for node, where in self.nodes(ast.BinOp):
            if isinstance(node.op, ast.Pow):
                self.assertIsInstance(node.right, ast.Constant, where)
        for node, where in self.nodes(ast.Compare):
            if isinstance(node.ops[0], (ast.Is, ast.IsNot)):
                self.assertIn(getattr(node.comparators[0], "value", 0), (None, True, False), where)

    def test_functions_and_classes(self):
        for node, where in self.nodes(ast.FunctionDef):
            spread = (node.args.vararg, node.args.kwarg, node.args.kwonlyargs, node.args.posonlyargs)
            self.assertEqual(spread, (None, None, [], []), where)
            self.assertEqual(node.decorator_list, [], where)
        methods = []
        for node, where in self.nodes(ast.ClassDef):
            self.assertEqual((node.decorator_list, node.keywords), ([], []), where)
            self.assertLessEqual(len(node.bases), 1, where)
            self.assertTrue(all(isinstance(part, ast.FunctionDef) for part in node.body[1:]), where)
            methods += [part.name for part in node.body if isinstance(part, ast.FunctionDef)]
        values = [node.attr for node, where in self.nodes(ast.Attribute) if isinstance(node.ctx, ast.Store)]
        self.assertEqual(set(methods) & set(values), set())
        for node, where in self.nodes(ast.Call):
            if isinstance(node.func, ast.Attribute):
                self.assertIn(node.func.attr, GRANTED_METHODS | set(methods), where)

    def test_the_top_of_each_file(self):
        for stem, tree in self.trees.items():
            self.assertIsNotNone(ast.get_docstring(tree), stem)
            functions = [node.name for node in tree.body if isinstance(node, ast.FunctionDef)]
            bound = []
            for node in tree.body[1:]:
                self.assertIsInstance(node, (ast.ImportFrom, ast.FunctionDef, ast.ClassDef, ast.Assign), stem)
                if isinstance(node, ast.Assign):
                    self.assertTrue(plain(node.value, functions), f"{stem}:{node.lineno}")
                    bound.append(node.targets[0].id)
                elif isinstance(node, ast.ImportFrom):
                    bound += [name.asname or name.name for name in node.names]
                else:
                    bound.append(node.name)
            self.assertEqual(len(bound), len(set(bound)), stem)

    def test_names(self):
        for node, where in self.nodes(ast.Name, ast.arg, ast.Attribute, ast.FunctionDef, ast.ClassDef):
            name = getattr(node, "id", None) or getattr(node, "arg", None) or getattr(node, "attr", None) or node.name
            if name not in DUNDERS:
                self.assertRegex(name, r"\A[A-Za-z][A-Za-z0-9_]*\Z", where)
            self.assertNotIn(name, NAMES_NOWHERE, where)
            if isinstance(node, ast.Name) and isinstance(node.ctx, ast.Load) and hasattr(builtins, name):
                self.assertIn(name, GRANTED_NAMES, where)
            if isinstance(node, ast.arg) or isinstance(node, ast.Name) and isinstance(node.ctx, ast.Store):
                self.assertFalse(hasattr(builtins, name), where)

    def test_no_local_is_called_like_what_its_file_has(self):
        for stem, tree in self.trees.items():
            taken = {node.name for node in tree.body if isinstance(node, (ast.ClassDef, ast.FunctionDef))}
            for node in tree.body:
                if isinstance(node, ast.ImportFrom):
                    taken |= {name.name for name in node.names}
            for node in ast.walk(tree):
                if isinstance(node, ast.arg):
                    self.assertNotIn(node.arg, taken, f"{stem}:{node.lineno}")
                if isinstance(node, ast.Name) and isinstance(node.ctx, ast.Store):
                    self.assertNotIn(node.id, taken, f"{stem}:{node.lineno}")

    def test_imports(self):
        drawn = {stem: [] for stem in self.trees}
        for stem, tree in self.trees.items():
            for node in ast.walk(tree):
                self.assertNotIsInstance(node, ast.Import, stem)
                if isinstance(node, ast.ImportFrom):
                    self.assertEqual(node.level, 0, stem)
                    self.assertRegex(node.module, r"\Arelayleases\.[a-z0-9_]+\Z", stem)
                    source = node.module.split(".")[1]
                    drawn[stem].append(source)
                    made = [getattr(part, "name", None) or part.targets[0].id for part in self.trees[source].body
                            if isinstance(part, (ast.FunctionDef, ast.ClassDef, ast.Assign))]
                    self.assertLessEqual({name.name for name in node.names}, set(made), stem)
        self.assertEqual(drawn["__init__"], [])
        while drawn:
            free = [stem for stem, sources in drawn.items() if not set(sources) & set(drawn)]
            self.assertTrue(free, drawn)
            for stem in free:
                del drawn[stem]
