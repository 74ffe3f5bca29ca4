"""The rules of the language that can be read off the package's files: L1, L2, L6, L7, L8, L10, L12, L14 to L20
and L25 in good part. The rest is for a reader's eye."""

import ast
import builtins
import pathlib
import re
import unittest

PACKAGE = pathlib.Path(__file__).resolve().parent.parent / "eldermap"

STATEMENTS = (ast.FunctionDef, ast.ClassDef, ast.ImportFrom, ast.Assign, ast.AugAssign, ast.If, ast.While, ast.For,
              ast.Return, ast.Break, ast.Continue, ast.Pass, ast.Raise, ast.Try, ast.Expr)
EXPRESSIONS = (ast.Constant, ast.Name, ast.Attribute, ast.Subscript, ast.Slice, ast.Call, ast.BinOp, ast.UnaryOp,
               ast.BoolOp, ast.Compare, ast.IfExp, ast.Lambda, ast.ListComp, ast.List, ast.Tuple, ast.Dict, ast.Set,
               ast.JoinedStr, ast.FormattedValue)
BUILT_IN = set("""len range enumerate zip min max sum abs sorted reversed int str bool list tuple dict set frozenset
    isinstance ord repr any all divmod Exception ValueError TypeError KeyError IndexError LookupError
    ZeroDivisionError ArithmeticError OverflowError RuntimeError NotImplementedError AttributeError
    StopIteration""".split())
METHODS = set("""append clear copy count endswith extend find get index insert isalnum isalpha isdigit islower isspace
    isupper items join keys ljust lower lstrip partition pop remove replace reverse rfind rjust rpartition rsplit
    rstrip setdefault split splitlines startswith strip update upper values zfill bit_length""".split())
WORDS = re.compile(r"\b(type|typing|typing_extensions|enum|Enum|IntEnum|StrEnum|Flag|IntFlag|Generic|Protocol|ABC"
                   r"|ABCMeta|namedtuple|NamedTuple|TypedDict|TYPE_CHECKING|abstractmethod)\b"
                   r"|dataclass|overload|contextmanager")


def files():
    return sorted(path for path in PACKAGE.iterdir() if path.name != "__pycache__")


def names_bound(tree):
    bound = set()
    for node in ast.walk(tree):
        if isinstance(node, (ast.FunctionDef, ast.ClassDef)):
            bound.add(node.name)
        elif isinstance(node, ast.arg):
            bound.add(node.arg)
        elif isinstance(node, ast.alias):
            bound.add(node.asname or node.name)
        elif isinstance(node, ast.Name) and isinstance(node.ctx, ast.Store):
            bound.add(node.id)
        elif isinstance(node, ast.ExceptHandler) and node.name:
            bound.add(node.name)
    return bound


def names_at_top(tree):
    bound = {node.name for node in tree.body if isinstance(node, (ast.FunctionDef, ast.ClassDef))}
    return bound | {node.targets[0].id for node in tree.body if isinstance(node, ast.Assign)}


class Language(unittest.TestCase):
    def nodes(self, *kinds):
        for path in files():
            for node in ast.walk(ast.parse(path.read_text())):
                if isinstance(node, kinds):
                    yield f"{path.name}:{getattr(node, 'lineno', 0)}", node

    def test_files_and_signs(self):
        self.assertIn("__init__.py", [path.name for path in files()])
        for path in files():
            self.assertRegex(path.name, r"^(__init__|__main__|[a-z][a-z0-9_]*)\.py$")
            text = path.read_text()
            self.assertRegex(text, r"^[ -~\n]*$")
            self.assertIsNone(WORDS.search(text), path.name)
            self.assertLessEqual(len(text.splitlines()), 400, path.name)
            self.assertLessEqual(max(map(len, text.splitlines())), 120, path.name)

    def test_only_the_allowed_forms(self):
        for place, node in self.nodes(ast.stmt):
            self.assertIsInstance(node, STATEMENTS, place)
        for place, node in self.nodes(ast.expr):
            self.assertIsInstance(node, EXPRESSIONS, place)
        for place, node in self.nodes(ast.Constant):
            self.assertNotIsInstance(node.value, (float, complex, bytes), place)
        for place, node in self.nodes(ast.Div, ast.MatMult):
            self.fail(place)

    def test_imports_come_from_the_package_alone(self):
        for place, node in self.nodes(ast.ImportFrom):
            self.assertEqual((node.level, node.module.split(".")[0]), (0, "eldermap"), place)
            self.assertNotIn("*", [alias.name for alias in node.names], place)
            self.assertEqual([alias.asname for alias in node.names], [None] * len(node.names), place)

    def test_a_name_is_drawn_from_the_very_file_that_defines_it(self):
        for place, node in self.nodes(ast.ImportFrom):
            tree = ast.parse((PACKAGE / (node.module.split(".")[1] + ".py")).read_text())
            for alias in node.names:
                self.assertIn(alias.name, names_at_top(tree), place)

    def test_no_two_files_draw_from_one_another(self):
        drawn = {path.stem: set() for path in files()}
        for place, node in self.nodes(ast.ImportFrom):
            drawn[place.split(".")[0]].add(node.module.split(".")[1])
        while drawn:
            free = [name for name in drawn if not drawn[name] & set(drawn)]
            self.assertNotEqual(free, [], drawn)
            for name in free:
                drawn.pop(name)

    def test_functions_are_small_and_plain(self):
        for place, node in self.nodes(ast.FunctionDef):
            self.assertLessEqual(node.end_lineno - node.lineno + 1, 40, place)
            self.assertEqual((node.decorator_list, node.args.vararg, node.args.kwarg), ([], None, None), place)
            self.assertEqual((node.args.kwonlyargs, node.args.posonlyargs), ([], []), place)

    def test_assignments_have_one_target_and_loops_no_else(self):
        for place, node in self.nodes(ast.Assign):
            self.assertEqual(len(node.targets), 1, place)
        for place, node in self.nodes(ast.For, ast.While):
            self.assertEqual(node.orelse, [], place)

    def test_is_stands_beside_none_true_and_false_alone(self):
        for place, node in self.nodes(ast.Compare):
            for operator, right in zip(node.ops, node.comparators):
                if isinstance(operator, (ast.Is, ast.IsNot)):
                    self.assertIn(ast.unparse(right), ("None", "True", "False"), place)

    def test_names_are_plain_and_known(self):
        for path in files():
            tree = ast.parse(path.read_text())
            bound = names_bound(tree)
            for name in bound - {"__init__"}:
                self.assertRegex(name, r"^[A-Za-z][A-Za-z0-9_]*$", path.name)
            read = {node.id for node in ast.walk(tree) if isinstance(node, ast.Name)}
            self.assertEqual(read - bound - BUILT_IN, set(), path.name)
            self.assertEqual(bound & BUILT_IN, set(), path.name)

    def test_no_local_is_called_like_a_class_an_import_or_a_name_of_pythons_own(self):
        for path in files():
            tree = ast.parse(path.read_text())
            kept = set(dir(builtins))
            for node in tree.body:
                if isinstance(node, ast.ClassDef):
                    kept.add(node.name)
                elif isinstance(node, ast.ImportFrom):
                    kept.update([alias.name for alias in node.names])
            for node in ast.walk(tree):
                if isinstance(node, ast.arg):
                    self.assertNotIn(node.arg, kept, path.name)
                elif isinstance(node, ast.Name) and isinstance(node.ctx, ast.Store):
                    self.assertNotIn(node.id, kept, path.name)

    def test_no_name_is_a_method_in_one_class_and_a_value_in_another(self):
        methods, values = set(), set()
        for _, node in self.nodes(ast.ClassDef):
            methods.update([part.name for part in node.body if isinstance(part, ast.FunctionDef)])
        for _, node in self.nodes(ast.Attribute):
            if isinstance(node.ctx, ast.Store):
                values.add(node.attr)
        self.assertEqual(methods & values, set())

    def test_errors_are_taken_by_the_names_of_the_programs_own(self):
        for place, node in self.nodes(ast.ExceptHandler):
            self.assertIn(ast.unparse(node.type) if node.type else "", ("MapError", "NoVersion", "NoName"), place)

    def test_methods_are_the_allowed_ones_or_own(self):
        own = {node.name for _, node in self.nodes(ast.FunctionDef)}
        for place, node in self.nodes(ast.Call):
            if isinstance(node.func, ast.Attribute):
                self.assertIn(node.func.attr, METHODS | own, place)


if __name__ == "__main__":
    unittest.main()
