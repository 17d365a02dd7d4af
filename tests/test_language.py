"""The package's own files keep to the small part of Python: what can be seen from their form alone.

This also stands for point 1's last row: without an import from outside and without Python's own
names beyond those listed, there is no clock, no chance and no file.
"""

import ast
import builtins
import pathlib
import re
import unittest

PACKAGE = pathlib.Path(__file__).resolve().parent.parent / "quotefind"

STATEMENTS = (
    ast.Module, ast.FunctionDef, ast.ClassDef, ast.ImportFrom, ast.Assign, ast.AugAssign, ast.If, ast.While,
    ast.For, ast.Return, ast.Break, ast.Continue, ast.Pass, ast.Raise, ast.Try, ast.ExceptHandler, ast.Expr,
)
EXPRESSIONS = (
    ast.Constant, ast.List, ast.Tuple, ast.Dict, ast.Set, ast.BinOp, ast.UnaryOp, ast.BoolOp, ast.Compare,
    ast.IfExp, ast.Call, ast.Attribute, ast.Subscript, ast.Slice, ast.ListComp, ast.comprehension,
    ast.JoinedStr, ast.FormattedValue, ast.Name, ast.Lambda,
)
SMALL_PARTS = (
    ast.operator, ast.unaryop, ast.boolop, ast.cmpop, ast.expr_context, ast.arguments, ast.arg, ast.keyword,
    ast.alias,
)
OUTSIDE = (ast.Div, ast.MatMult)

BUILT_IN = set("""
    len range enumerate zip min max sum abs sorted reversed int str bool list tuple dict set frozenset
    isinstance ord repr any all divmod Exception ValueError TypeError KeyError IndexError LookupError
    ZeroDivisionError ArithmeticError OverflowError RuntimeError NotImplementedError AttributeError
    StopIteration
""".split())
PLAIN_METHODS = set("""
    append clear copy count endswith extend find get index insert isalnum isalpha isdigit islower isspace
    isupper items join keys ljust lower lstrip partition pop remove replace reverse rfind rjust rpartition
    rsplit rstrip setdefault split splitlines startswith strip update upper values zfill bit_length
""".split())
DOUBLE_UNDERSCORE = {"__init__", "__eq__", "__repr__", "__str__", "__len__"}
WORDS_THAT_STAND_NOWHERE = re.compile(
    r"\b(type|typing|typing_extensions|enum|Enum|IntEnum|StrEnum|Flag|IntFlag|Generic|Protocol|ABC|ABCMeta"
    r"|namedtuple|NamedTuple|TypedDict|TYPE_CHECKING|abstractmethod)\b|dataclass|overload|contextmanager"
)


def source_files():
    return sorted(PACKAGE.glob("*.py"))


def each_part():
    for path in source_files():
        for node in ast.walk(ast.parse(path.read_text(encoding="utf-8"))):
            yield f"{path.name}:{getattr(node, 'lineno', 1)}", node


def names_in(node):
    """The names that a part of the program bears or speaks of."""
    found = [getattr(node, field, None) for field in ("id", "attr", "name", "arg", "asname")]
    return [name for name in found if isinstance(name, str)]


def own_methods():
    classes = [node for place, node in each_part() if isinstance(node, ast.ClassDef)]
    return {part.name for node in classes for part in node.body if isinstance(part, ast.FunctionDef)}


def own_values():
    """The names under which the objects of the package keep something."""
    return {node.attr for place, node in each_part()
            if isinstance(node, ast.Attribute) and isinstance(node.ctx, ast.Store)}


class Language(unittest.TestCase):

    def test_only_plain_files(self):
        names = [path.name for path in PACKAGE.iterdir() if path.name != "__pycache__"]
        self.assertIn("__init__.py", names)
        for name in names:
            self.assertRegex(name, r"\A([a-z][a-z0-9_]*|__init__|__main__)\.py\Z")

    def test_signs_and_sizes(self):
        for path in source_files():
            text = path.read_text(encoding="utf-8")
            self.assertRegex(text, r"\A[ -~\n]*\Z", path.name)
            self.assertLessEqual(len(text.splitlines()), 400, path.name)
            for line in text.splitlines():
                self.assertLessEqual(len(line), 120, path.name)
            self.assertIsNone(WORDS_THAT_STAND_NOWHERE.search(text), path.name)

    def test_functions_are_short_and_plain(self):
        for place, node in each_part():
            if isinstance(node, ast.FunctionDef):
                self.assertLessEqual(node.end_lineno - node.lineno + 1, 40, place)
                self.assertEqual(node.decorator_list, [], place)
                self.assertIsNone(node.args.vararg, place)
                self.assertIsNone(node.args.kwarg, place)
                self.assertEqual(node.args.kwonlyargs + node.args.posonlyargs, [], place)

    def test_imports_from_the_package_alone(self):
        for place, node in each_part():
            if isinstance(node, ast.ImportFrom):
                self.assertEqual(node.level, 0, place)
                self.assertRegex(node.module, r"\Aquotefind\.[a-z_]+\Z", place)
                self.assertNotIn("*", [alias.name for alias in node.names], place)

    def test_only_the_forms_listed(self):
        for place, node in each_part():
            self.assertIsInstance(node, STATEMENTS + EXPRESSIONS + SMALL_PARTS, place)
            self.assertNotIsInstance(node, OUTSIDE, place)
            if isinstance(node, ast.Constant):
                self.assertNotIsInstance(node.value, (float, complex, bytes), place)
                self.assertNotIn("%", str(node.value), place)

    def test_names(self):
        for place, node in each_part():
            for name in names_in(node):
                if name not in DOUBLE_UNDERSCORE:
                    self.assertRegex(name, r"\A[A-Za-z][A-Za-z0-9_]*\Z", place)
            if isinstance(node, ast.Name) and hasattr(builtins, node.id):
                self.assertIn(node.id, BUILT_IN, place)
                self.assertIsInstance(node.ctx, ast.Load, place)

    def test_methods_are_the_listed_ones_or_own_ones(self):
        known = PLAIN_METHODS | own_methods()
        for place, node in each_part():
            if isinstance(node, ast.Call) and isinstance(node.func, ast.Attribute):
                self.assertIn(node.func.attr, known, place)

    def test_no_name_is_a_method_and_a_value(self):
        self.assertEqual(own_methods() & own_values(), set())

    def test_one_walk_and_at_most_one_choice_in_a_comprehension(self):
        for place, node in each_part():
            if isinstance(node, ast.ListComp):
                self.assertEqual(len(node.generators), 1, place)
                self.assertLessEqual(len(node.generators[0].ifs), 1, place)

    def test_one_target_in_an_assignment(self):
        for place, node in each_part():
            if isinstance(node, ast.Assign):
                self.assertEqual(len(node.targets), 1, place)
                self.assertNotIsInstance(node.targets[0], (ast.Tuple, ast.List), place)

    def test_is_stands_beside_none_true_and_false_alone(self):
        for place, node in each_part():
            if isinstance(node, ast.Compare) and isinstance(node.ops[0], (ast.Is, ast.IsNot)):
                beside = node.comparators[0]
                self.assertIsInstance(beside, ast.Constant, place)
                self.assertIn(beside.value, (None, True, False), place)

    def test_no_parameter_and_no_local_bears_a_name_that_is_used_otherwise(self):
        for path in source_files():
            tree = ast.parse(path.read_text(encoding="utf-8"))
            imported = {alias.name for node in tree.body if isinstance(node, ast.ImportFrom) for alias in node.names}
            classes = {node.name for node in tree.body if isinstance(node, ast.ClassDef)}
            for node in ast.walk(tree):
                bound = isinstance(node, ast.Name) and isinstance(node.ctx, ast.Store)
                if bound or isinstance(node, ast.arg):
                    name = names_in(node)[0]
                    self.assertNotIn(name, imported | classes | set(dir(builtins)), path.name)

    def test_plain_names_alone_in_f_strings(self):
        for place, node in each_part():
            if isinstance(node, ast.FormattedValue):
                self.assertIsInstance(node.value, ast.Name, place)
                self.assertIsNone(node.format_spec, place)

    def test_lists_and_dicts_of_a_files_top_hold_none(self):
        for path in source_files():
            for node in ast.parse(path.read_text(encoding="utf-8")).body:
                if isinstance(node, ast.Assign):
                    held = [part for part in ast.walk(node.value) if isinstance(part, (ast.List, ast.Dict, ast.Set))]
                    self.assertLessEqual(len(held), 1, path.name)

    def test_errors_are_taken_by_name_and_are_own_ones(self):
        refusals = {node.name for place, node in each_part()
                    if place.startswith("errors.py:") and isinstance(node, ast.ClassDef)}
        for place, node in each_part():
            if isinstance(node, ast.ExceptHandler):
                self.assertIsInstance(node.type, ast.Name, place)
                self.assertIn(node.type.id, refusals, place)

    def test_sets_only_on_the_spot(self):
        for place, node in each_part():
            self.assertNotIsInstance(node, ast.Set, place)
            if isinstance(node, ast.Assign) and isinstance(node.value, ast.Call):
                self.assertNotIn(names_in(node.value.func)[:1], [["set"], ["frozenset"]], place)

    def test_no_two_files_draw_from_one_another(self):
        drawn = {}
        for path in source_files():
            tree = ast.parse(path.read_text(encoding="utf-8"))
            modules = [node.module for node in ast.walk(tree) if isinstance(node, ast.ImportFrom)]
            drawn["quotefind." + path.stem] = set(modules)
        while drawn:
            ready = [name for name, modules in drawn.items() if not modules & set(drawn)]
            self.assertNotEqual(ready, [], sorted(drawn))
            for name in ready:
                drawn.pop(name)


if __name__ == "__main__":
    unittest.main()
