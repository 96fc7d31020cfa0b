"""The package's files keep to ../shared/LANGUAGE.md, as far as their trees tell."""

import ast
import builtins
import pathlib
import re
import unittest

import partpacks

FOLDER = pathlib.Path(partpacks.__file__).parent
STATEMENTS = (
    ast.Assign, ast.AugAssign, ast.If, ast.While, ast.For, ast.Return, ast.Break, ast.Continue, ast.Pass, ast.Raise,
    ast.Try, ast.Expr, ast.FunctionDef, ast.ClassDef, ast.ImportFrom,
)
EXPRESSIONS = (
    ast.Name, ast.Constant, ast.List, ast.Tuple, ast.Dict, ast.BinOp, ast.UnaryOp, ast.BoolOp, ast.Compare, ast.IfExp,
    ast.Call, ast.Attribute, ast.Subscript, ast.Slice, ast.ListComp, ast.Lambda,
)
BUILT_IN = """
    len range enumerate zip min max sum abs sorted reversed int str bool list tuple dict set frozenset isinstance ord
    repr any all divmod Exception ValueError TypeError KeyError IndexError LookupError ZeroDivisionError
    ArithmeticError OverflowError RuntimeError NotImplementedError AttributeError StopIteration
""".split()
METHODS = """
    append clear copy count endswith extend find get index insert isalnum isalpha isdigit islower isspace isupper items
    join keys ljust lower lstrip partition pop remove replace reverse rfind rjust rpartition rsplit rstrip setdefault
    split splitlines startswith strip update upper values zfill bit_length
""".split()
NOT_USED = """
    register mro elements open input version_info with_traceback add_note attrgetter breakpoint builtins compile
    copyright credits delattr dir eval exec exit gc getattr globals hasattr help id importlib license locals
    methodcaller os quit setattr super type vars sys
""".split()
NOT_WRITTEN = re.compile(
    r"\b(type|typing|typing_extensions|enum|Enum|IntEnum|StrEnum|Flag|IntFlag|Generic|Protocol|ABC|ABCMeta|namedtuple"
    r"|NamedTuple|TypedDict|TYPE_CHECKING|abstractmethod)\b|dataclass|overload|contextmanager"
)
OF_PYTHONS_VALUES = {name for value in ("", 0, [], {}, set(), b"", ()) for name in dir(value)}


class Language(unittest.TestCase):

    def setUp(self):
        self.trees = {}
        for path in sorted(FOLDER.iterdir()):
            if path.name != "__pycache__":
                self.assertRegex(path.name, r"^[a-z0-9_]+\.py$")
                self.trees[path.stem] = ast.parse(path.read_text("ascii"))
        self.tops = {stem: self.top_names(tree) for stem, tree in self.trees.items()}
        self.own = {node.name for node in self.nodes(ast.FunctionDef, ast.ClassDef)}

    def nodes(self, *kinds):
        return [node for tree in self.trees.values() for node in ast.walk(tree) if isinstance(node, kinds)]

    def top_names(self, tree):
        names = []
        for node in tree.body:
            if isinstance(node, (ast.FunctionDef, ast.ClassDef)):
                names.append(node.name)
            elif isinstance(node, ast.Assign):
                names.append(node.targets[0].id)
        return names

    def test_rows_and_words(self):
        for stem in self.trees:
            text = (FOLDER / (stem + ".py")).read_text("ascii")
            self.assertRegex(text, r"^[ -~\n]*$")
            self.assertIsNone(NOT_WRITTEN.search(text), stem)
            self.assertLessEqual(len(text.splitlines()), 399)
            self.assertLessEqual(max(len(row) for row in text.splitlines()), 120)

    def test_sizes_of_functions_and_plain_parameters(self):
        for node in self.nodes(ast.FunctionDef):
            self.assertLessEqual(node.end_lineno - node.lineno + 1, 40, node.name)
            told = node.args
            self.assertEqual([told.vararg, told.kwarg, told.kwonlyargs, told.posonlyargs], [None, None, [], []])
            self.assertEqual([node.decorator_list, node.returns], [[], None])

    def test_statements_and_expressions(self):
        for node in self.nodes(ast.stmt, ast.expr):
            self.assertIsInstance(node, STATEMENTS + EXPRESSIONS)
        for node in self.nodes(ast.Assign):
            self.assertEqual(len(node.targets), 1)
        for node in self.nodes(ast.While, ast.For):
            self.assertEqual(node.orelse, [])
        for node in self.nodes(ast.Try):
            self.assertEqual(node.finalbody, [])
        for node in self.nodes(ast.Constant):
            self.assertIn(node.value.__class__, (int, str, bool, None.__class__))
            self.assertNotIn("%", str(node.value))
        for node in self.nodes(ast.Div, ast.MatMult):
            self.fail("a sign that is out")
        for node in self.nodes(ast.ListComp):
            self.assertEqual(len(node.generators), 1)
            self.assertLessEqual(len(node.generators[0].ifs), 1)

    def test_single_expressions_are_calls_or_a_files_docstring(self):
        texts = [tree.body[0] for tree in self.trees.values()]
        for node in texts:
            self.assertIsInstance(node.value.value, str)
        for node in self.nodes(ast.Expr):
            self.assertTrue(isinstance(node.value, ast.Call) or node in texts)

    def test_tops_of_files(self):
        for stem, tree in self.trees.items():
            for node in tree.body[1:]:
                self.assertIsInstance(node, (ast.ImportFrom, ast.FunctionDef, ast.ClassDef, ast.Assign), stem)
            names = self.tops[stem] + self.drawn(tree)
            self.assertEqual(len(names), len(set(names)), stem)
        for node in self.nodes(ast.ClassDef):
            self.assertTrue(all(isinstance(inner, ast.FunctionDef) for inner in node.body), node.name)

    def drawn(self, tree):
        return [name.name for node in tree.body if isinstance(node, ast.ImportFrom) for name in node.names]

    def test_imports(self):
        draws = {}
        for stem, tree in self.trees.items():
            draws[stem] = []
            for node in [node for node in tree.body if isinstance(node, ast.ImportFrom)]:
                self.assertEqual(node.level, 0)
                self.assertRegex(node.module, r"^partpacks\.[a-z]+$")
                draws[stem].append(node.module.split(".")[1])
                for name in node.names:
                    self.assertIsNone(name.asname)
                    self.assertIn(name.name, self.tops[draws[stem][-1]])
        for stem in draws:
            met = list(draws[stem])
            for other in met:
                met.extend(name for name in draws[other] if name not in met)
            self.assertNotIn(stem, met)
        self.assertIn("answers", self.tops["packs"])
        self.assertEqual(self.tops["__init__"], [])

    def test_names(self):
        for tree in self.trees.values():
            shut = set(self.drawn(tree)) | {node.name for node in tree.body if isinstance(node, ast.ClassDef)}
            for node in ast.walk(tree):
                if isinstance(node, ast.Name):
                    self.assertNotIn(node.id, NOT_USED)
                    self.assertRegex(node.id, r"^[A-Za-z][A-Za-z0-9_]*$")
                    if hasattr(builtins, node.id):
                        self.assertIn(node.id, BUILT_IN)
                        self.assertIsInstance(node.ctx, ast.Load)
                    if isinstance(node.ctx, ast.Store):
                        self.assertNotIn(node.id, shut)
                elif isinstance(node, ast.arg):
                    self.assertFalse(hasattr(builtins, node.arg) or node.arg in shut, node.arg)

    def test_methods_and_values(self):
        methods = {inner.name for node in self.nodes(ast.ClassDef) for inner in node.body}
        called = {node.func.attr for node in self.nodes(ast.Call) if isinstance(node.func, ast.Attribute)}
        self.assertEqual(called - set(METHODS) - methods, set())
        stored = {node.attr for node in self.nodes(ast.Attribute) if isinstance(node.ctx, ast.Store)}
        self.assertEqual(stored & methods, set())
        self.assertEqual((stored | methods - {"__init__"}) & OF_PYTHONS_VALUES, set())
        self.assertEqual((stored | methods) & set(NOT_USED), set())

    def test_is_stands_beside_none_true_and_false(self):
        for node in self.nodes(ast.Compare):
            for sign, right in zip(node.ops, node.comparators):
                if isinstance(sign, (ast.Is, ast.IsNot)):
                    self.assertIn(right.value, (None, True, False))

    def test_errors_taken_are_the_programs_own(self):
        for node in self.nodes(ast.ExceptHandler):
            self.assertIn(node.type.id, self.own)


if __name__ == "__main__":
    unittest.main()
