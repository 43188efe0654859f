"""Looks over the package's own files for what LANGUAGE.md rules out, as far as single signs and steps show it."""

import ast
import builtins
import pathlib
import re
import unittest

PACKAGE = pathlib.Path(__file__).resolve().parent.parent / "ruleexceptions"

STEPS = {
    "Module", "Expr", "Assign", "AugAssign", "If", "While", "For", "Return", "Break", "Continue", "Pass", "Raise",
    "Try", "ExceptHandler", "FunctionDef", "ClassDef", "ImportFrom", "alias", "arguments", "arg", "Lambda",
    "Constant", "Name", "Attribute", "Subscript", "Slice", "Call", "keyword", "List", "Tuple", "Dict", "Set",
    "BinOp", "UnaryOp", "BoolOp", "Compare", "IfExp", "ListComp", "comprehension", "JoinedStr", "FormattedValue",
    "Load", "Store", "Add", "Sub", "Mult", "FloorDiv", "Mod", "Pow", "BitAnd", "BitOr", "BitXor", "LShift", "RShift",
    "Invert", "USub", "UAdd", "Not", "And", "Or", "Eq", "NotEq", "Lt", "LtE", "Gt", "GtE", "In", "NotIn", "Is", "IsNot",
}
PYTHONS_OWN = set(
    "len range enumerate zip min max sum abs sorted reversed int str bool list tuple dict set isinstance ord repr any"
    " all divmod Exception ValueError KeyError IndexError LookupError ZeroDivisionError ArithmeticError OverflowError"
    " RuntimeError NotImplementedError StopIteration".split())
METHODS = set(
    "append clear copy count endswith extend find get index insert isalnum isalpha isdigit islower isspace isupper"
    " items join keys ljust lower lstrip partition pop remove replace reverse rfind rjust rpartition rsplit rstrip"
    " setdefault split splitlines startswith strip update upper values zfill bit_length".split())
OTHERS_METHODS = {
    name for kind in (str, int, list, dict, set, bytes, tuple) for name in dir(kind)
    if not name.startswith("__")} - METHODS
WORDS_OUT = re.compile(
    r"\b(type|typing|typing_extensions|enum|Enum|IntEnum|StrEnum|Flag|IntFlag|Generic|Protocol|ABC|ABCMeta"
    r"|namedtuple|NamedTuple|TypedDict|TYPE_CHECKING|abstractmethod)\b|dataclass|overload|contextmanager")
NAMES_OUT = set(
    "register mro elements open input version_info with_traceback add_note format format_map sys os id super"
    " chr print".split())
TWO_UNDERSCORES = {"__init__", "__eq__", "__repr__", "__str__", "__len__"}


def files():
    return sorted(PACKAGE.rglob("*.py"))


def trees():
    return [(path, ast.parse(path.read_text(encoding="ascii"))) for path in files()]


def steps(kind):
    return [(path, node) for path, tree in trees() for node in ast.walk(tree) if isinstance(node, kind)]


def bound_names(tree):
    names = [node.id for node in ast.walk(tree) if isinstance(node, ast.Name) and isinstance(node.ctx, ast.Store)]
    names += [node.arg for node in ast.walk(tree) if isinstance(node, ast.arg)]
    return names + [node.name for node in ast.walk(tree) if isinstance(node, (ast.FunctionDef, ast.ClassDef))]


class Files(unittest.TestCase):
    def test_nothing_but_plainly_named_files(self):
        self.assertIn(PACKAGE / "__init__.py", files())
        for path in PACKAGE.rglob("*"):
            if "__pycache__" not in path.parts:
                self.assertRegex(path.name, r"^(__init__|[a-z][a-z0-9_]*)\.py$")
                self.assertNotIn(path.stem, dir(builtins))

    def test_sizes_and_signs(self):
        for path in files():
            text = path.read_bytes().decode("ascii")
            self.assertRegex(text, r"\A[ -~\n]*\Z", path)
            rows = text.split("\n")
            self.assertLessEqual(len(rows), 400, path)
            self.assertLessEqual(max(len(row) for row in rows), 120, path)

    def test_words_that_stand_nowhere(self):
        for path in files():
            self.assertIsNone(WORDS_OUT.search(path.read_text(encoding="ascii")), path)

    def test_functions_are_short(self):
        for path, node in steps(ast.FunctionDef):
            self.assertLessEqual(node.end_lineno - node.lineno + 1, 40, (path, node.name))


class Steps(unittest.TestCase):
    def test_only_the_steps_that_are_listed(self):
        for path, node in steps(ast.AST):
            self.assertIn(type(node).__name__, STEPS, (path, getattr(node, "lineno", 0)))

    def test_plain_functions_and_classes(self):
        for path, node in steps((ast.FunctionDef, ast.ClassDef)):
            self.assertEqual(node.decorator_list, [], (path, node.name))
        for path, node in steps(ast.arguments):
            self.assertEqual((node.vararg, node.kwarg, node.kwonlyargs, node.posonlyargs), (None, None, [], []), path)
        for path, node in steps(ast.ClassDef):
            self.assertLessEqual(len(node.bases), 1)
            for part in node.body:
                self.assertIsInstance(part, (ast.FunctionDef, ast.Pass), (path, part.lineno))

    def test_single_statements(self):
        for path, node in steps(ast.Assign):
            self.assertEqual(len(node.targets), 1, (path, node.lineno))
        for path, node in steps((ast.For, ast.While)):
            self.assertEqual(node.orelse, [], (path, node.lineno))
        for path, node in steps(ast.Try):
            self.assertEqual(node.finalbody, [], (path, node.lineno))
        for path, node in steps(ast.Constant):
            self.assertIn(type(node.value), (int, str, bool, type(None)), (path, node.lineno))

    def test_each_file_top_binds_a_name_once(self):
        for path, tree in trees():
            for node in tree.body:
                self.assertIsInstance(node, (ast.Expr, ast.ImportFrom, ast.Assign, ast.FunctionDef, ast.ClassDef), path)
            names = [node.name for node in tree.body if isinstance(node, (ast.FunctionDef, ast.ClassDef))]
            names += [node.targets[0].id for node in tree.body if isinstance(node, ast.Assign)]
            names += [part.name for node in tree.body if isinstance(node, ast.ImportFrom) for part in node.names]
            self.assertEqual(len(names), len(set(names)), path)


class Loops(unittest.TestCase):
    def test_no_function_comes_back_to_itself(self):
        calls = {node.name: {part.func.id for part in ast.walk(node)
                             if isinstance(part, ast.Call) and isinstance(part.func, ast.Name)}
                 for _, node in steps(ast.FunctionDef)}
        while calls:
            free = [name for name in calls if not calls[name] & set(calls)]
            self.assertNotEqual(free, [], "functions call one another in a ring")
            calls = {name: calls[name] for name in calls if name not in free}


class Names(unittest.TestCase):
    def test_imports(self):
        drawn = {}
        for path, node in steps(ast.ImportFrom):
            self.assertRegex(f"{node.level} {node.module}", r"^0 ruleexceptions\.\w+$", path)
            self.assertNotIn("*", [part.name for part in node.names], path)
            drawn.setdefault(path.stem, set()).add(node.module.split(".")[1])
        self.assertNotIn("__init__", drawn)
        while drawn:
            free = [name for name in drawn if not drawn[name] & set(drawn)]
            self.assertNotEqual(free, [], "files draw from one another")
            drawn = {name: drawn[name] for name in drawn if name not in free}

    def test_bound_names_are_plain(self):
        for path, tree in trees():
            for name in bound_names(tree):
                if name not in TWO_UNDERSCORES:
                    self.assertRegex(name, r"^[A-Za-z][A-Za-z0-9_]*$", path)
                    self.assertNotIn(name, dir(builtins), path)
                    self.assertNotIn(name, NAMES_OUT, path)

    def test_of_pythons_own_names_only_those_listed(self):
        for path, node in steps(ast.Name):
            if node.id in dir(builtins):
                self.assertIn(node.id, PYTHONS_OWN, (path, node.lineno))

    def test_of_pythons_own_methods_only_those_listed(self):
        for path, node in steps(ast.Attribute):
            self.assertNotIn(node.attr, OTHERS_METHODS | NAMES_OUT, (path, node.lineno))

    def test_no_local_is_called_like_a_class_or_an_import(self):
        for path, tree in trees():
            taken = {part.name for node in tree.body if isinstance(node, ast.ImportFrom) for part in node.names}
            taken |= {node.name for node in tree.body if isinstance(node, ast.ClassDef)}
            inner = [name for node in tree.body if isinstance(node, (ast.FunctionDef, ast.ClassDef))
                     for part in node.body for name in bound_names(part)]
            inner += [node.arg for node in ast.walk(tree) if isinstance(node, ast.arg)]
            self.assertEqual(taken & set(inner), set(), path)

    def test_a_method_is_no_value(self):
        methods = {part.name for _, node in steps(ast.ClassDef) for part in node.body if hasattr(part, "name")}
        values = {node.attr for _, node in steps(ast.Attribute) if isinstance(node.ctx, ast.Store)}
        self.assertEqual(methods & values, set())


if __name__ == "__main__":
    unittest.main()
