"""The package's files keep to the rules of LANGUAGE.md, as far as a walk over them can tell."""

import ast
import builtins
import pathlib
import re
import unittest

PACKAGE = pathlib.Path(__file__).resolve().parent.parent / "herdwhole"

ALLOWED_NAMES = set("""
    len range enumerate zip min max sum abs sorted reversed int str bool list tuple dict set frozenset isinstance
    ord repr any all divmod Exception ValueError TypeError KeyError IndexError LookupError ZeroDivisionError
    ArithmeticError OverflowError RuntimeError NotImplementedError AttributeError StopIteration""".split())
ALLOWED_METHODS = set("""
    append clear copy count endswith extend find get index insert isalnum isalpha isdigit islower isspace isupper
    items join keys ljust lower lstrip partition pop remove replace reverse rfind rjust rpartition rsplit rstrip
    setdefault split splitlines startswith strip update upper values zfill bit_length""".split())
DUNDERS = {"__init__", "__eq__", "__repr__", "__str__", "__len__"}
FORBIDDEN_NAMES = set("""
    register mro elements open input version_info with_traceback add_note attrgetter breakpoint builtins compile
    copyright credits delattr dir eval exec exit gc getattr globals hasattr help id importlib license locals
    methodcaller os quit setattr super type vars sys format format_map""".split())
FORBIDDEN_WORDS = set("""
    type typing typing_extensions enum Enum IntEnum StrEnum Flag IntFlag Generic Protocol ABC ABCMeta namedtuple
    NamedTuple TypedDict TYPE_CHECKING abstractmethod""".split())
FORBIDDEN_PARTS = ("dataclass", "overload", "contextmanager")
TAKEN_FILE_NAMES = {"test", "tests", "testing", "site", "conftest", "sitecustomize", "usercustomize"}
ALLOWED_NODES = (
    ast.Module, ast.Expr, ast.Constant, ast.ImportFrom, ast.alias, ast.FunctionDef, ast.arguments, ast.arg,
    ast.ClassDef, ast.Assign, ast.AugAssign, ast.If, ast.While, ast.For, ast.Return, ast.Break, ast.Continue,
    ast.Pass, ast.Raise, ast.Try, ast.ExceptHandler, ast.Call, ast.keyword, ast.Attribute, ast.Subscript,
    ast.Slice, ast.Name, ast.expr_context, ast.List, ast.Tuple, ast.Dict, ast.Set, ast.ListComp,
    ast.comprehension, ast.BinOp, ast.operator, ast.UnaryOp, ast.unaryop, ast.Compare, ast.cmpop, ast.BoolOp,
    ast.boolop, ast.IfExp, ast.Lambda, ast.JoinedStr, ast.FormattedValue,
)


def package_files():
    return sorted(path for path in PACKAGE.rglob("*") if path.is_file() and "__pycache__" not in path.parts)


def trees():
    return {path: ast.parse(path.read_text(encoding="utf-8")) for path in package_files()}


def all_nodes(kinds=ast.AST):
    for path, tree in trees().items():
        for node in ast.walk(tree):
            if isinstance(node, kinds):
                yield f"{path.name}:{getattr(node, 'lineno', 0)}", node


def top_names(tree):
    names = []
    for node in tree.body:
        if isinstance(node, (ast.FunctionDef, ast.ClassDef)):
            names.append(node.name)
        if isinstance(node, ast.Assign):
            names.extend(target.id for target in node.targets)
        if isinstance(node, ast.ImportFrom):
            names.extend(alias.asname or alias.name for alias in node.names)
    return names


def imports(tree):
    return [node for node in tree.body if isinstance(node, ast.ImportFrom)]


def module_path(name):
    return PACKAGE.parent / (name.replace(".", "/") + ".py")


def called_name(node):
    """The name of what is called, a function's or a method's; None if nothing is."""
    if not isinstance(node, ast.Call):
        return None
    return node.func.attr if isinstance(node.func, ast.Attribute) else getattr(node.func, "id", None)


def walked_on_the_spot(tree):
    """What stands behind the in of a for, or where it is gone through at once by one of Python's own."""
    found = []
    for node in ast.walk(tree):
        if isinstance(node, (ast.For, ast.comprehension)):
            found.append(node.iter)
        if called_name(node) in ("list", "tuple", "dict", "sorted", "sum", "any", "all", "enumerate", "zip"):
            found.extend(node.args[:1])
        if called_name(node) in ("min", "max") and len(node.args) == 1 and not node.keywords:
            found.extend(node.args)
    return found


class FileTest(unittest.TestCase):
    def test_there_are_files(self):
        self.assertIn(PACKAGE / "__init__.py", package_files())
        self.assertIn(PACKAGE / "book.py", package_files())

    def test_names_of_files(self):
        taken = TAKEN_FILE_NAMES | FORBIDDEN_WORDS | set(dir(builtins))
        for path in package_files():
            self.assertRegex(path.name, r"\A(__init__|__main__|[a-z][a-z0-9_]*)\.py\Z")
            self.assertNotIn(path.stem, taken)
            self.assertFalse(path.stem.startswith("test_"), path)
            self.assertTrue((path.parent / "__init__.py").is_file(), path)

    def test_signs_and_sizes(self):
        for path in package_files():
            lines = path.read_bytes().decode("utf-8").split("\n")
            self.assertLessEqual(len(lines), 400, path)
            for number, line in enumerate(lines, 1):
                self.assertRegex(line, r"\A[ -~]{0,120}\Z", f"{path.name}:{number}")

    def test_words(self):
        for path in package_files():
            text = path.read_text(encoding="utf-8")
            self.assertEqual(set(re.findall(r"\w+", text)) & FORBIDDEN_WORDS, set(), path)
            self.assertEqual([part for part in FORBIDDEN_PARTS if part in text], [], path)

    def test_size_of_functions(self):
        for place, node in all_nodes(ast.FunctionDef):
            self.assertLessEqual(node.end_lineno - node.lineno + 1, 40, place)


class FormTest(unittest.TestCase):
    def test_kinds_of_code(self):
        for place, node in all_nodes():
            self.assertIsInstance(node, ALLOWED_NODES, place)
            self.assertNotIsInstance(node, (ast.Div, ast.MatMult), place)

    def test_plain_values(self):
        for place, node in all_nodes(ast.Constant):
            self.assertIn(type(node.value), (int, str, bool, type(None)), place)
            self.assertNotIn("%", node.value if isinstance(node.value, str) else "", place)

    def test_functions_and_classes(self):
        for place, node in all_nodes((ast.FunctionDef, ast.ClassDef)):
            self.assertEqual(node.decorator_list, [], place)
        for place, node in all_nodes(ast.arguments):
            self.assertEqual([node.vararg, node.kwarg, node.kwonlyargs, node.posonlyargs], [None, None, [], []], place)
        for place, node in all_nodes(ast.ClassDef):
            self.assertLessEqual(len(node.bases), 1, place)
            for number, part in enumerate(node.body):
                allowed = (ast.FunctionDef, ast.Pass) if number else (ast.FunctionDef, ast.Pass, ast.Expr)
                self.assertIsInstance(part, allowed, place)

    def test_statements(self):
        for place, node in all_nodes((ast.For, ast.While)):
            self.assertEqual(node.orelse, [], place)
        for place, node in all_nodes(ast.Try):
            self.assertEqual(node.finalbody, [], place)
        for place, node in all_nodes(ast.Assign):
            self.assertEqual(len(node.targets), 1, place)
        for place, node in all_nodes(ast.Expr):
            self.assertIsInstance(node.value, (ast.Call, ast.Constant), place)

    def test_list_comprehensions(self):
        for place, node in all_nodes(ast.ListComp):
            self.assertEqual(len(node.generators), 1, place)
            self.assertLessEqual(len(node.generators[0].ifs), 1, place)

    def test_walked_at_once(self):
        for path, tree in trees().items():
            walked = walked_on_the_spot(tree)
            for node in ast.walk(tree):
                if called_name(node) in ("zip", "enumerate", "reversed", "range", "items", "keys", "values"):
                    self.assertIn(node, walked, f"{path.name}:{node.lineno}")

    def test_sets_are_not_kept(self):
        for place, node in all_nodes((ast.Set, ast.Call)):
            self.assertFalse(isinstance(node, ast.Set) or called_name(node) in ("set", "frozenset"), place)

    def test_keywords(self):
        allowed = {"sorted": {"key", "reverse"}, "min": {"key", "default"}, "max": {"key", "default"},
                   "sum": {"start"}, "enumerate": {"start"}, "zip": {"strict"}}
        for place, node in all_nodes(ast.Call):
            given = {keyword.arg for keyword in node.keywords}
            if called_name(node) in ALLOWED_NAMES | ALLOWED_METHODS:
                self.assertLessEqual(given, allowed.get(called_name(node), set()), place)

    def test_names_of_python_are_called_not_kept(self):
        for path, tree in trees().items():
            called = [node.func for node in ast.walk(tree) if isinstance(node, ast.Call)]
            for node in ast.walk(tree):
                if isinstance(node, ast.Name) and node.id in ALLOWED_NAMES:
                    self.assertIn(node, called, f"{path.name}:{node.lineno}")

    def test_is_stands_beside_none_true_and_false(self):
        for place, node in all_nodes(ast.Compare):
            for sign, right in zip(node.ops, node.comparators):
                if isinstance(sign, (ast.Is, ast.IsNot)):
                    self.assertIn(getattr(right, "value", 0), (None, True, False), place)

    def test_powers_have_a_written_exponent(self):
        for place, node in all_nodes(ast.BinOp):
            if isinstance(node.op, ast.Pow):
                self.assertIn(getattr(node.right, "value", -1), range(65), place)

    def test_top_of_a_file(self):
        for path, tree in trees().items():
            names = top_names(tree)
            self.assertEqual(sorted(set(names)), sorted(names), path)
            for number, node in enumerate(tree.body):
                allowed = (ast.ImportFrom, ast.FunctionDef, ast.ClassDef, ast.Assign)
                self.assertIsInstance(node, allowed if number else allowed + (ast.Expr,), path)


class NameTest(unittest.TestCase):
    def check_bound(self, place, name):
        self.assertRegex(name, r"\A[A-Za-z][A-Za-z0-9_]*\Z", place)
        self.assertNotIn(name, FORBIDDEN_NAMES, place)

    def test_bound_names(self):
        for place, node in all_nodes((ast.Name, ast.arg, ast.FunctionDef, ast.ClassDef, ast.Attribute)):
            if isinstance(node, ast.Name):
                self.check_bound(place, node.id)
                if isinstance(node.ctx, ast.Store):
                    self.assertNotIn(node.id, dir(builtins), place)
            elif isinstance(node, ast.arg):
                self.check_bound(place, node.arg)
                self.assertNotIn(node.arg, dir(builtins), place)
                self.assertIsNone(node.annotation, place)
            elif isinstance(node, ast.Attribute):
                if node.attr not in DUNDERS:
                    self.check_bound(place, node.attr)
            elif node.name not in DUNDERS:
                self.check_bound(place, node.name)

    def test_names_of_python(self):
        for place, node in all_nodes(ast.Name):
            if node.id in dir(builtins):
                self.assertIn(node.id, ALLOWED_NAMES, place)

    def test_locals_are_not_called_like_classes_or_imports(self):
        for path, tree in trees().items():
            taken = {node.name for node in tree.body if isinstance(node, ast.ClassDef)}
            taken |= {alias.asname or alias.name for node in imports(tree) for alias in node.names}
            for node in ast.walk(tree):
                if isinstance(node, ast.arg):
                    self.assertNotIn(node.arg, taken, path)
                if isinstance(node, ast.Name) and isinstance(node.ctx, ast.Store):
                    self.assertNotIn(node.id, taken, path)

    def test_methods(self):
        own = {node.name for place, node in all_nodes(ast.FunctionDef)}
        for place, node in all_nodes(ast.Call):
            if isinstance(node.func, ast.Attribute):
                self.assertIn(node.func.attr, ALLOWED_METHODS | own, place)

    def test_no_name_is_a_method_and_a_value(self):
        methods = {part.name for place, node in all_nodes(ast.ClassDef)
                   for part in node.body if isinstance(part, ast.FunctionDef)}
        stored = {node.attr for place, node in all_nodes(ast.Attribute) if isinstance(node.ctx, ast.Store)}
        self.assertEqual(methods & stored, set())


    def test_own_methods_and_values_are_called_unlike_those_of_python(self):
        of_python = {name for kind in (str, int, list, tuple, dict, set, bytes) for name in dir(kind)}
        for place, node in all_nodes(ast.ClassDef):
            for part in ast.walk(node):
                if isinstance(part, ast.FunctionDef) and part.name not in DUNDERS:
                    self.assertNotIn(part.name, of_python - ALLOWED_METHODS, place)
                if isinstance(part, ast.Attribute) and isinstance(part.ctx, ast.Store):
                    self.assertNotIn(part.attr, of_python, place)


class ImportTest(unittest.TestCase):
    def test_own_names_from_the_file_that_defines_them(self):
        for path, tree in trees().items():
            at_top = imports(tree)
            for node in ast.walk(tree):
                if isinstance(node, ast.ImportFrom):
                    self.assertIn(node, at_top, path)
                    self.assertEqual(node.level, 0, path)
                    self.assertTrue(node.module.startswith("herdwhole."), path)
                    drawn = ast.parse(module_path(node.module).read_text(encoding="utf-8"))
                    brought = {alias.name for one in imports(drawn) for alias in one.names}
                    for alias in node.names:
                        self.assertIn(alias.name, set(top_names(drawn)) - brought, path)

    def test_no_two_files_draw_from_one_another(self):
        drawn = {path: {module_path(node.module) for node in imports(tree)} for path, tree in trees().items()}
        while drawn:
            free = [path for path, others in drawn.items() if not others & set(drawn)]
            self.assertNotEqual(free, [], "these draw from one another: " + str(sorted(drawn)))
            for path in free:
                drawn.pop(path)


if __name__ == "__main__":
    unittest.main()
