"""The package keeps to the part of Python told for it, as far as that is quickly looked at."""

import ast
import re
import unittest
from pathlib import Path

PACKAGE = Path(__file__).resolve().parent.parent / "lowwater"
FILES = sorted(PACKAGE.glob("*.py"))

OWN_NAMES = set(
    "len range enumerate zip min max sum abs sorted reversed int str bool bytes list tuple dict set frozenset "
    "isinstance ord repr any all divmod Exception ValueError TypeError KeyError IndexError LookupError "
    "ZeroDivisionError ArithmeticError OverflowError RuntimeError NotImplementedError AttributeError "
    "StopIteration".split()
)
METHODS = set(
    "append clear copy count endswith extend find get index insert isalnum isalpha isdigit islower isspace isupper "
    "items join keys ljust lower lstrip partition pop remove replace reverse rfind rjust rpartition rsplit rstrip "
    "setdefault split splitlines startswith strip update upper values zfill bit_length sort add discard "
    "__init__".split()
)
NO_WORDS = (
    "type typing typing_extensions enum Enum IntEnum StrEnum Flag IntFlag Generic Protocol ABC ABCMeta namedtuple "
    "NamedTuple TypedDict TYPE_CHECKING abstractmethod"
).split()
NO_NAMES = "register mro elements open input version_info with_traceback add_note".split()
NO_NODES = (
    ast.GeneratorExp, ast.NamedExpr, ast.With, ast.Match, ast.Global, ast.Nonlocal, ast.Yield, ast.YieldFrom, ast.Div,
    ast.AsyncFunctionDef, ast.Await, ast.Import,
)

# For each stage its files, and what the document's interface names in them: a later stage draws nothing else.
STAGES = (
    {"errors": "LowwaterError NoRow NoQuotient TooGreat NoText NotSecond NotStraight TooMany NoLine"},
    {"fractions": "is_fraction added less multiplied divided beside",
     "sums": "is_sum degree plus times scaled slope put_in worth", "sumtexts": "shown read"},
    {"squares": "are_squares squares", "lowest": "lowest is_lowest"},
    {"rims": "kept over is_over", "reach": "reach is_reach"},
    {"divisors": "quotient common", "parts": "parts split"},
    {"pieces": "numbers are_pieces", "stretches": "never nearly is_nearly"},
    {"boxes": "box_numbers bears_tree", "layers": "never_in nearly_in is_nearly_in"},
    {"rows": "row_sums", "turned": "rows_of_squares rows_of_weights rows_of_piece"},
    {"desk": "Desk"},
)
STAGE_OF = {name: number for number, stage in enumerate(STAGES) for name in stage}


def trees():
    for path in FILES:
        yield path.name, ast.parse(path.read_text(encoding="ascii"))


class Language(unittest.TestCase):
    def test_nothing_else_lies_in_the_package(self):
        lying = [path.name for path in PACKAGE.iterdir() if path.name != "__pycache__"]
        self.assertEqual(sorted(lying), [path.name for path in FILES])
        self.assertIn("__init__.py", lying)

    def test_sizes_and_signs(self):
        for path in FILES:
            text = path.read_bytes().decode("ascii")
            rows = text.split("\n")
            self.assertLessEqual(len(rows), 401, path.name)
            self.assertTrue(all(sign == "\n" or " " <= sign <= "~" for sign in text), path.name)
            self.assertLessEqual(max(len(row) for row in rows), 120, path.name)

    def test_words(self):
        for path in FILES:
            words = re.findall(r"\w+", path.read_text())
            self.assertEqual([word for word in words if word in NO_WORDS + NO_NAMES], [], path.name)

    def test_nodes(self):
        for name, tree in trees():
            for node in ast.walk(tree):
                where = f"{name}:{getattr(node, 'lineno', 0)}"
                self.assertNotIsInstance(node, NO_NODES, where)
                if isinstance(node, ast.FunctionDef):
                    self.assertLessEqual(node.end_lineno - node.lineno + 1, 40, where)
                    self.assertIsNone(node.args.vararg or node.args.kwarg, where)
                if isinstance(node, (ast.FunctionDef, ast.ClassDef)):
                    self.assertEqual(node.decorator_list, [], where)
                if isinstance(node, ast.Constant):
                    self.assertNotIsInstance(node.value, (float, complex), where)
                if isinstance(node, (ast.For, ast.While)):
                    self.assertEqual(node.orelse, [], where)
                if isinstance(node, ast.BinOp) and isinstance(node.op, ast.Pow):
                    self.assertIsInstance(node.right, ast.Constant, where)

    def test_imports(self):
        for name, tree in trees():
            for node in ast.walk(tree):
                if isinstance(node, ast.ImportFrom):
                    self.assertEqual((node.level, node.module.split(".")[0]), (0, "lowwater"), name)
                    self.assertNotIn("*", [alias.name for alias in node.names], name)

    def test_each_stage_draws_from_lower_ones_what_the_interface_names(self):
        for name, tree in trees():
            own = STAGE_OF.get(name[:-3])
            for node in ast.walk(tree):
                if isinstance(node, ast.ImportFrom):
                    drawn = node.module.split(".")[1]
                    self.assertIsNotNone(own, name)
                    self.assertLessEqual(STAGE_OF[drawn], own, name)
                    if STAGE_OF[drawn] < own:
                        named = STAGES[STAGE_OF[drawn]][drawn].split()
                        self.assertEqual([alias.name for alias in node.names if alias.name not in named], [], name)

    def test_everything_drawn_is_used_and_hidden_by_nothing(self):
        for name, tree in trees():
            drawn = {alias.name for node in ast.walk(tree) if isinstance(node, ast.ImportFrom) for alias in node.names}
            names = [node for node in ast.walk(tree) if isinstance(node, ast.Name)]
            self.assertEqual(drawn - {node.id for node in names if isinstance(node.ctx, ast.Load)}, set(), name)
            given = {node.id for node in names if isinstance(node.ctx, ast.Store)}
            given |= {node.arg for node in ast.walk(tree) if isinstance(node, ast.arg)}
            self.assertEqual(drawn & given, set(), name)

    def test_names(self):
        for name, tree in trees():
            bound = {node.name for node in ast.walk(tree) if isinstance(node, (ast.FunctionDef, ast.ClassDef))}
            bound |= {node.arg for node in ast.walk(tree) if isinstance(node, ast.arg)}
            bound |= {alias.name for node in ast.walk(tree) if isinstance(node, ast.ImportFrom) for alias in node.names}
            names = [node for node in ast.walk(tree) if isinstance(node, ast.Name)]
            bound |= {node.id for node in names if isinstance(node.ctx, ast.Store)}
            self.assertEqual({node.id for node in names} - bound - OWN_NAMES, set(), name)
            self.assertEqual(bound & OWN_NAMES, set(), name)
            self.assertEqual([word for word in bound if word.startswith("_") and word != "__init__"], [], name)

    def test_what_stands_at_the_top(self):
        plain = (ast.Constant, ast.Tuple, ast.List, ast.Dict, ast.BinOp, ast.UnaryOp, ast.operator, ast.unaryop, ast.expr_context)
        for name, tree in trees():
            above = set()
            for node in tree.body:
                where = f"{name}:{node.lineno}"
                if isinstance(node, ast.FunctionDef):
                    above.add(node.name)
                elif isinstance(node, ast.Assign):
                    for part in ast.walk(node.value):
                        self.assertTrue(isinstance(part, plain) or isinstance(part, ast.Name) and part.id in above, where)
                else:
                    docstring = isinstance(node, ast.Expr) and isinstance(node.value, ast.Constant)
                    self.assertTrue(docstring or isinstance(node, (ast.ImportFrom, ast.ClassDef)), where)

    def test_methods(self):
        own = {node.name for name, tree in trees() for group in ast.walk(tree) if isinstance(group, ast.ClassDef)
               for node in group.body if isinstance(node, ast.FunctionDef)}
        for name, tree in trees():
            for node in ast.walk(tree):
                if isinstance(node, ast.Call) and isinstance(node.func, ast.Attribute):
                    self.assertIn(node.func.attr, METHODS | own, f"{name}:{node.lineno}")


if __name__ == "__main__":
    unittest.main()
