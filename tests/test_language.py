"""What of LANGUAGE.md a look at the code can tell; each failure names its rule."""

import ast
import builtins
import pathlib
import re
import unittest

import straightseamsdesk

FOLDER = pathlib.Path(straightseamsdesk.__file__).parent

# The document says that the program imports nothing, so that no import stands here.
NODES = """Module FunctionDef arguments arg Expr Assign AugAssign If While For Return Break Continue Pass
Constant Name Load Store List Tuple Dict BinOp UnaryOp BoolOp Compare IfExp Call Attribute Subscript Slice
ListComp comprehension Add Sub Mult FloorDiv Mod USub Not And Or Eq NotEq Lt LtE Gt GtE In NotIn Is IsNot
""".split()

OWN_NAMES = """len range enumerate zip min max sum abs sorted reversed int str bool list tuple dict any all
divmod isinstance ord""".split()

METHODS = "append copy count extend get index insert items keys pop remove reverse setdefault update values".split()

WORDS = """type typing typing_extensions enum Enum IntEnum StrEnum Flag IntFlag Generic Protocol ABC ABCMeta
namedtuple NamedTuple TypedDict TYPE_CHECKING abstractmethod""".split()

WORDS_WITHIN = "dataclass overload contextmanager".split()


def sources():
    return [(path.name, path.read_text(encoding="utf-8")) for path in sorted(FOLDER.glob("*.py"))]


def nodes(kind):
    for name, source in sources():
        for node in ast.walk(ast.parse(source)):
            if isinstance(node, kind):
                yield name, node


def bound_names(tree):
    for node in ast.walk(tree):
        if isinstance(node, ast.arg):
            yield node.arg
        if isinstance(node, ast.Name) and isinstance(node.ctx, ast.Store):
            yield node.id
        if isinstance(node, ast.FunctionDef):
            yield node.name


class Language(unittest.TestCase):
    def test_l1_files(self):
        for path in FOLDER.iterdir():
            if path.name != "__pycache__":
                self.assertRegex(path.name, r"^(__init__|[a-z][a-z0-9_]*)\.py$", "L1, L14")

    def test_l6_l7_forms(self):
        for name, node in nodes(ast.AST):
            self.assertIn(node.__class__.__name__, NODES, f"L2, L6, L7: {name}")
        for name, node in nodes((ast.For, ast.While)):
            self.assertEqual(node.orelse, [], f"L6: {name}")
        for name, node in nodes(ast.Assign):
            self.assertEqual(len(node.targets), 1, f"L6: {name}")
            self.assertNotIsInstance(node.targets[0], ast.Tuple, f"L6: {name}")
        for name, node in nodes(ast.ListComp):
            self.assertEqual(len(node.generators), 1, f"L7: {name}")
            self.assertLessEqual(len(node.generators[0].ifs), 1, f"L7: {name}")

    def test_l4_functions(self):
        for name, node in nodes(ast.FunctionDef):
            self.assertEqual(node.decorator_list, [], f"L4: {name}")
            rest = (node.args.vararg, node.args.kwarg, node.args.kwonlyargs, node.args.posonlyargs)
            self.assertEqual(rest, (None, None, [], []), f"L4: {name}")

    def test_l8_names_of_python_s_own(self):
        for name, source in sources():
            tree = ast.parse(source)
            bound = set(bound_names(tree))
            self.assertEqual(sorted(bound & set(dir(builtins))), [], f"L8, L15: {name}")
            for node in ast.walk(tree):
                if isinstance(node, ast.Name) and node.id not in bound:
                    self.assertIn(node.id, OWN_NAMES, f"L8: {name}")

    def test_l10_size(self):
        for name, source in sources():
            rows = source.split("\n")
            self.assertLessEqual(len(rows), 400, f"L10: {name}")
            self.assertLessEqual(max(len(row) for row in rows), 120, f"L10: {name}")
        for name, node in nodes(ast.FunctionDef):
            self.assertLessEqual(node.end_lineno - node.lineno + 1, 40, f"L10: {name}")

    def test_l12_plain_names(self):
        for name, source in sources():
            for bound in bound_names(ast.parse(source)):
                self.assertRegex(bound, r"^[A-Za-z][A-Za-z0-9_]*$", f"L12: {name}")

    def test_l14_signs(self):
        for name, source in sources():
            self.assertRegex(source, r"\A[ -~\n]*\Z", f"L14: {name}")

    def test_l15_each_name_once(self):
        for name, source in sources():
            bound = []
            for node in ast.parse(source).body:
                if isinstance(node, ast.Assign):
                    self.assertIsInstance(ast.literal_eval(node.value), int, f"L15: {name}")
                    bound.append(node.targets[0].id)
                elif isinstance(node, ast.FunctionDef):
                    bound.append(node.name)
                else:
                    self.assertIsInstance(node, ast.Expr, f"L3: {name}")
                    self.assertIsInstance(node.value, ast.Constant, f"L3: {name}")
            self.assertEqual(len(bound), len(set(bound)), f"L15: {name}")

    def test_l17_words(self):
        for name, source in sources():
            for word in WORDS:
                self.assertIsNone(re.search(rf"\b{word}\b", source), f"L17: {name}, {word}")
            for word in WORDS_WITHIN:
                self.assertNotIn(word, source, f"L17: {name}, {word}")

    def test_l20_is_beside_none(self):
        for name, node in nodes(ast.Compare):
            for sign, other in zip(node.ops, node.comparators):
                if isinstance(sign, (ast.Is, ast.IsNot)):
                    self.assertIsInstance(other, ast.Constant, f"L20: {name}")

    def test_l25_methods(self):
        for name, node in nodes(ast.Attribute):
            self.assertIn(node.attr, METHODS, f"L25: {name}")


if __name__ == "__main__":
    unittest.main()
