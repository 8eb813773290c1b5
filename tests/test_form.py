"""The form of the package's files, as far as it can be seen from the files by simple means."""

import ast
import builtins
import pathlib
import re
import unittest

PACKAGE = pathlib.Path(__file__).resolve().parent.parent / "stripmeld"

ALLOWED_BUILTINS = set(
    "len range enumerate zip min max sum abs sorted reversed int str bool list tuple dict set frozenset isinstance "
    "ord repr any all divmod Exception ValueError TypeError KeyError IndexError LookupError ZeroDivisionError "
    "ArithmeticError OverflowError RuntimeError NotImplementedError AttributeError StopIteration".split())

UNUSED_WORDS = re.compile(
    r"\b(type|typing|typing_extensions|enum|Enum|IntEnum|StrEnum|Flag|IntFlag|Generic|Protocol|ABC|ABCMeta|"
    r"namedtuple|NamedTuple|TypedDict|TYPE_CHECKING|abstractmethod)\b|dataclass|overload|contextmanager")

ALLOWED_METHODS = set(
    "append clear copy count endswith extend find get index insert isalnum isalpha isdigit islower isspace isupper "
    "items join keys ljust lower lstrip partition pop remove replace reverse rfind rjust rpartition rsplit rstrip "
    "setdefault split splitlines startswith strip update upper values zfill bit_length".split())

# The names of Python's own values, but for those that an own method or an own value may have too.
PYTHONS_OWN = set().union(*(dir(kind) for kind in (str, int, list, tuple, dict, set, frozenset, bytes, bytearray)))
FREE_FOR_METHODS = ALLOWED_METHODS | {"add", "discard"}
FREE_FOR_VALUES = set("count index title find get join lower upper split strip copy add".split())

DUNDERS = ("__init__", "__eq__", "__repr__", "__str__", "__len__")

ALLOWED_NODES = (
    ast.Module, ast.ImportFrom, ast.alias, ast.FunctionDef, ast.ClassDef, ast.arguments, ast.arg, ast.Lambda,
    ast.Assign, ast.AugAssign, ast.If, ast.While, ast.For, ast.Return, ast.Break, ast.Continue, ast.Pass, ast.Raise,
    ast.Try, ast.ExceptHandler, ast.Expr, ast.Constant, ast.List, ast.Tuple, ast.Dict, ast.Set, ast.BinOp,
    ast.UnaryOp, ast.BoolOp, ast.Compare, ast.IfExp, ast.Call, ast.Attribute, ast.Subscript, ast.Slice, ast.Name,
    ast.ListComp, ast.comprehension, ast.JoinedStr, ast.FormattedValue, ast.keyword,
    ast.expr_context, ast.operator, ast.unaryop, ast.boolop, ast.cmpop,
)


def package_files():
    return sorted(path for path in PACKAGE.rglob("*") if "__pycache__" not in path.parts)


def parsed(path):
    return ast.parse(path.read_text(encoding="utf-8"))


def top_names(tree):
    names = []
    for node in tree.body:
        if isinstance(node, (ast.FunctionDef, ast.ClassDef)):
            names.append(node.name)
        elif isinstance(node, ast.Assign):
            names.extend(target.id for target in node.targets)
    return names


def class_names():
    trees = [parsed(path) for path in package_files()]
    return [node.name for tree in trees for node in tree.body if isinstance(node, ast.ClassDef)]


def is_class_use(above, node):
    """Whether a class stands there as one may: called, as a base, or by `isinstance` or `except`."""
    if isinstance(above, ast.Call):
        return above.func is node or getattr(above.func, "id", "") == "isinstance"
    return isinstance(above, (ast.ClassDef, ast.ExceptHandler, ast.Raise))


def drawn_from(tree):
    return [node.module for node in tree.body if isinstance(node, ast.ImportFrom)]


class FormTest(unittest.TestCase):
    def each(self, kind):
        for path in package_files():
            for node in ast.walk(parsed(path)):
                if isinstance(node, kind):
                    yield node, f"{path.name}:{getattr(node, 'lineno', 0)}"

    def test_only_plain_files_lie_in_the_package(self):
        self.assertTrue((PACKAGE / "__init__.py").is_file())
        for path in package_files():
            self.assertTrue(path.is_file() and re.fullmatch(r"[a-z0-9_]+\.py", path.name), path)

    def test_signs_and_sizes(self):
        for path in package_files():
            text = path.read_bytes().decode("ascii")
            self.assertRegex(text, r"\A[ -~\n]*\Z")
            rows = text.split("\n")
            self.assertLessEqual(len(rows), 400, path.name)
            self.assertLessEqual(max(map(len, rows)), 120, path.name)

    def test_words_that_stand_nowhere(self):
        for path in package_files():
            self.assertNotRegex(path.read_text(encoding="utf-8"), UNUSED_WORDS)

    def test_kinds_of_statements_and_expressions(self):
        for node, where in self.each(ast.AST):
            self.assertIsInstance(node, ALLOWED_NODES, where)
            self.assertFalse(isinstance(node, (ast.Div, ast.MatMult)), where)
            if isinstance(node, (ast.For, ast.While)):
                self.assertEqual(node.orelse, [], where)
            if isinstance(node, ast.Try):
                self.assertEqual(node.finalbody, [], where)
            if isinstance(node, ast.Assign):
                self.assertEqual(len(node.targets), 1, where)
            if isinstance(node, ast.Constant):
                self.assertIn(node.value.__class__, (int, str, bool, None.__class__), where)

    def test_expressions_by_themselves_are_calls_but_for_the_first_words_of_a_file(self):
        for path in package_files():
            tree = parsed(path)
            for node in ast.walk(tree):
                if isinstance(node, ast.Expr) and node is not tree.body[0]:
                    self.assertIsInstance(node.value, ast.Call, f"{path.name}:{node.lineno}")

    def test_comprehensions_have_one_for_and_at_most_one_if(self):
        for node, where in self.each(ast.ListComp):
            self.assertEqual(len(node.generators), 1, where)
            self.assertLessEqual(len(node.generators[0].ifs), 1, where)

    def test_functions_are_small_and_plain(self):
        for node, where in self.each(ast.FunctionDef):
            self.assertLessEqual(node.end_lineno - node.lineno + 1, 40, where)
            self.assertEqual(node.decorator_list, [], where)
            taken = node.args
            self.assertFalse(taken.vararg or taken.kwarg or taken.kwonlyargs or taken.posonlyargs, where)

    def test_classes_are_plain(self):
        for node, where in self.each(ast.ClassDef):
            self.assertEqual(node.decorator_list, [], where)
            self.assertLessEqual(len(node.bases), 1, where)
            for part in node.body:
                self.assertIsInstance(part, (ast.FunctionDef, ast.Pass), where)

    def test_names(self):
        for node, where in self.each((ast.Name, ast.arg, ast.Attribute, ast.FunctionDef, ast.ClassDef)):
            name = [getattr(node, field) for field in ("id", "arg", "attr", "name") if hasattr(node, field)][0]
            self.assertTrue(name in DUNDERS or re.fullmatch(r"[A-Za-z][A-Za-z0-9_]*", name), where)

    def test_pythons_own_names(self):
        for node, where in self.each(ast.Name):
            if hasattr(builtins, node.id):
                self.assertIn(node.id, ALLOWED_BUILTINS, where)
                self.assertIsInstance(node.ctx, ast.Load, where)
        for node, where in self.each(ast.arg):
            self.assertFalse(hasattr(builtins, node.arg), where)

    def test_methods_are_own_ones_or_of_the_list(self):
        own = [part.name for node, _ in self.each(ast.ClassDef) for part in node.body
               if isinstance(part, ast.FunctionDef)]
        for node, where in self.each(ast.Call):
            if isinstance(node.func, ast.Attribute):
                self.assertTrue(node.func.attr in ALLOWED_METHODS or node.func.attr in own, where)

    def test_own_methods_and_values_have_names_of_their_own(self):
        methods = {part.name for node, _ in self.each(ast.ClassDef) for part in node.body
                   if isinstance(part, ast.FunctionDef)} - set(DUNDERS)
        values = {node.attr for node, _ in self.each(ast.Attribute) if isinstance(node.ctx, ast.Store)}
        self.assertIn("sell", methods)
        self.assertIn("members", values)
        self.assertEqual(methods & values, set())
        self.assertEqual(methods & PYTHONS_OWN - FREE_FOR_METHODS, set())
        self.assertEqual(values & (PYTHONS_OWN | {"args"}) - FREE_FOR_VALUES, set())

    def test_methods_are_called_where_they_stand(self):
        called = [node.func for node, _ in self.each(ast.Call)]
        values = {node.attr for node, _ in self.each(ast.Attribute) if isinstance(node.ctx, ast.Store)}
        places = {(node.lineno, node.col_offset, node.attr) for node in called if isinstance(node, ast.Attribute)}
        for node, where in self.each(ast.Attribute):
            self.assertTrue(node.attr in values or (node.lineno, node.col_offset, node.attr) in places, where)

    def test_classes_are_not_kept(self):
        names = class_names()
        for above, where in self.each(ast.AST):
            for node in ast.iter_child_nodes(above):
                if isinstance(node, ast.Name) and node.id in names:
                    self.assertTrue(is_class_use(above, node), where)

    def test_locals_are_not_called_like_an_import_or_a_class(self):
        for path in package_files():
            tree = parsed(path)
            taken = {part.asname or part.name for node in tree.body if isinstance(node, ast.ImportFrom)
                     for part in node.names}
            taken |= {node.name for node in tree.body if isinstance(node, ast.ClassDef)}
            names = {node.arg for node in ast.walk(tree) if isinstance(node, ast.arg)}
            names |= {node.id for node in ast.walk(tree) if isinstance(node, ast.Name)
                      and isinstance(node.ctx, ast.Store)}
            names |= {node.name for node in ast.walk(tree) if isinstance(node, ast.ExceptHandler)}
            self.assertEqual(taken & names, set(), path.name)

    def test_is_stands_beside_none_true_and_false_alone(self):
        for node, where in self.each(ast.Compare):
            if any(isinstance(sign, (ast.Is, ast.IsNot)) for sign in node.ops):
                plain = [side for side in [node.left] + node.comparators if isinstance(side, ast.Constant)]
                self.assertTrue(any(side.value in (None, True, False) for side in plain), where)

    def test_numbers_and_texts(self):
        for node, where in self.each((ast.BinOp, ast.Constant)):
            if isinstance(node, ast.Constant) and isinstance(node.value, str):
                self.assertNotIn("%", node.value, where)
            if isinstance(node, ast.BinOp) and isinstance(node.op, ast.Pow):
                self.assertIsInstance(node.right, ast.Constant, where)
                self.assertIn(node.right.value, range(65), where)

    def test_walks_are_not_kept(self):
        for node, where in self.each(ast.Assign):
            kept = node.value
            if isinstance(kept, ast.Call):
                called = getattr(kept.func, "id", getattr(kept.func, "attr", ""))
                walks = ("zip", "enumerate", "reversed", "range", "items", "keys", "values", "set", "frozenset")
                self.assertNotIn(called, walks, where)

    def test_each_name_is_bound_once_at_the_top(self):
        for path in package_files():
            names = top_names(parsed(path))
            self.assertEqual(len(names), len(set(names)), path.name)

    def test_imports_come_from_the_file_that_defines_the_name(self):
        for node, where in self.each(ast.ImportFrom):
            self.assertEqual((node.level, node.module.split(".")[0]), (0, "stripmeld"), where)
            source = PACKAGE / (node.module.split(".")[1] + ".py")
            for part in node.names:
                self.assertIn(part.name, top_names(parsed(source)), where)

    def test_no_two_files_draw_from_one_another(self):
        drawn = {"stripmeld." + path.stem: drawn_from(parsed(path)) for path in package_files()}
        while drawn:
            free = [name for name, sources in drawn.items() if not any(source in drawn for source in sources)]
            self.assertNotEqual(free, [], drawn)
            for name in free:
                drawn.pop(name)


if __name__ == "__main__":
    unittest.main()
