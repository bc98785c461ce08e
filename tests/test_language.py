"""The package keeps to the small part of Python that it is written in (the rules that can be read off its files)."""

import ast
import builtins
import pathlib
import re
import unittest

PACKAGE = pathlib.Path(__file__).resolve().parent.parent / "warmthgrown"

NODES = {
    "Module", "FunctionDef", "arguments", "arg", "ClassDef", "Lambda", "Return", "Assign", "AugAssign", "For", "While",
    "If", "Raise", "Try", "ExceptHandler", "Import", "ImportFrom", "alias", "Expr", "Pass", "Break", "Continue",
    "BoolOp", "BinOp", "UnaryOp", "IfExp", "Dict", "ListComp", "comprehension", "Compare", "Call", "keyword",
    "JoinedStr", "FormattedValue", "Constant", "Attribute", "Subscript", "Name", "List", "Tuple", "Slice", "Load",
    "Store", "And", "Or", "Add", "Sub", "Mult", "FloorDiv", "Mod", "LShift", "RShift", "BitOr", "BitXor", "BitAnd",
    "Invert", "Not", "USub", "Eq", "NotEq", "Lt", "LtE", "Gt", "GtE", "Is", "IsNot", "In", "NotIn",
}
OWN_OF_PYTHON = {
    "len", "range", "enumerate", "zip", "min", "max", "sum", "abs", "sorted", "reversed", "int", "str", "bool", "list",
    "tuple", "dict", "set", "isinstance", "ord", "repr", "any", "all", "divmod", "Exception", "ValueError", "KeyError",
    "IndexError", "LookupError", "ZeroDivisionError",
}
METHODS = set("append clear copy count endswith extend find get index insert items join keys pop remove replace reverse "
              "setdefault split startswith strip update values bit_length".split())
WORDS_OUT = ("type typing typing_extensions enum Enum IntEnum StrEnum Flag IntFlag Generic Protocol ABC ABCMeta "
             "namedtuple NamedTuple TypedDict TYPE_CHECKING abstractmethod").split()
NAMES_OUT = set("register mro elements open input version_info attrgetter breakpoint builtins compile copyright credits "
                "delattr dir eval exec exit gc getattr globals hasattr help id importlib license locals methodcaller os "
                "quit setattr super vars sys print chr".split())


def files():
    return sorted(PACKAGE.rglob("*.py"))


def trees():
    return [(path, ast.parse(path.read_text(encoding="ascii"))) for path in files()]


def names_bound(node):
    if isinstance(node, ast.arg):
        return [node.arg]
    if isinstance(node, ast.Name) and isinstance(node.ctx, ast.Store):
        return [node.id]
    if isinstance(node, (ast.FunctionDef, ast.ClassDef)):
        return [node.name]
    return []


def names_at_top(tree):
    return [name for node in tree.body for part in ([node] + getattr(node, "targets", [])) for name in names_bound(part)]


class Files(unittest.TestCase):
    def test_nothing_else_lies_in_the_package(self):
        self.assertTrue((PACKAGE / "__init__.py").is_file())
        for path in PACKAGE.rglob("*"):
            if "__pycache__" not in path.parts:
                self.assertRegex(path.name, r"^([a-z][a-z0-9_]*|__init__)\.py$")

    def test_signs_and_sizes(self):
        for path in files():
            rows = path.read_text(encoding="ascii").split("\n")
            self.assertLessEqual(len(rows), 399, path)
            for row in rows:
                self.assertRegex(row, r"^[ -~]{0,120}$", path)

    def test_words_that_stand_nowhere(self):
        for path in files():
            text = path.read_text(encoding="ascii")
            words = set(re.findall(r"[A-Za-z0-9_]+", text))
            self.assertEqual(words & set(WORDS_OUT), set(), path)
            self.assertIsNone(re.search("dataclass|overload|contextmanager", text), path)


class Code(unittest.TestCase):
    def each_node(self):
        for path, tree in trees():
            for node in ast.walk(tree):
                yield path, node

    def test_statements_and_expressions(self):
        for path, node in self.each_node():
            where = (path.name, getattr(node, "lineno", 0))
            self.assertIn(type(node).__name__, NODES, where)
            if isinstance(node, ast.Constant):
                self.assertIn(type(node.value), (int, str, bool, type(None)), where)
            if isinstance(node, ast.Assign):
                self.assertEqual(len(node.targets), 1, where)
                self.assertNotIsInstance(node.targets[0], (ast.Tuple, ast.List), where)
            if isinstance(node, (ast.For, ast.While)):
                self.assertEqual(node.orelse, [], where)
            if isinstance(node, ast.ListComp):
                self.assertEqual(len(node.generators), 1, where)

    def test_functions(self):
        for path, node in self.each_node():
            if isinstance(node, ast.FunctionDef):
                where = (path.name, node.name)
                self.assertLessEqual(node.end_lineno - node.lineno + 1, 40, where)
                self.assertEqual(node.decorator_list, [], where)
                self.assertIsNone(node.args.vararg or node.args.kwarg, where)
                self.assertEqual(node.args.kwonlyargs + node.args.posonlyargs, [], where)

    def test_names(self):
        for path, node in self.each_node():
            for name in names_bound(node):
                if name != "__init__":
                    self.assertRegex(name, r"^[A-Za-z][A-Za-z0-9_]*$", path)
                    self.assertFalse(hasattr(builtins, name), (path.name, name))
            if isinstance(node, ast.Name):
                self.assertNotIn(node.id, NAMES_OUT, path)
                if hasattr(builtins, node.id):
                    self.assertIn(node.id, OWN_OF_PYTHON, path)

    def test_methods_that_are_called(self):
        for path, node in self.each_node():
            if isinstance(node, ast.Call) and isinstance(node.func, ast.Attribute):
                self.assertIn(node.func.attr, METHODS, path)

    def test_imports(self):
        for path, tree in trees():
            for node in ast.walk(tree):
                self.assertNotIsInstance(node, ast.Import, path)
                if isinstance(node, ast.ImportFrom):
                    self.assertIn(node, tree.body, path)
                    self.assertEqual(node.level, 0, path)
                    self.assertTrue(node.module.startswith("warmthgrown."), path)

    def test_no_two_files_draw_from_one_another(self):
        drawn = {"warmthgrown." + path.stem: [node.module for node in tree.body if isinstance(node, ast.ImportFrom)]
                 for path, tree in trees()}
        # Files from which nothing more is drawn are taken away till none is left.
        while drawn:
            ends = [name for name in drawn if not any(other in drawn for other in drawn[name])]
            self.assertNotEqual(ends, [], drawn)
            drawn = {name: drawn[name] for name in drawn if name not in ends}

    def test_names_are_drawn_from_the_file_that_defines_them(self):
        for path, tree in trees():
            for node in tree.body:
                if isinstance(node, ast.ImportFrom):
                    source = ast.parse((PACKAGE / (node.module.split(".")[1] + ".py")).read_text(encoding="ascii"))
                    for drawn in node.names:
                        self.assertIsNone(drawn.asname, path)
                        self.assertIn(drawn.name, names_at_top(source), path)

    def test_no_local_is_called_like_an_import_or_a_class(self):
        for path, tree in trees():
            taken = {drawn.name for node in tree.body if isinstance(node, ast.ImportFrom) for drawn in node.names}
            taken |= {node.name for node in tree.body if isinstance(node, ast.ClassDef)}
            inner = [name for top in tree.body if isinstance(top, ast.FunctionDef) for node in ast.walk(top)
                     for name in names_bound(node)]
            self.assertEqual(taken & set(inner), set(), path)

    def test_is_stands_beside_none_true_and_false(self):
        for path, node in self.each_node():
            if isinstance(node, ast.Compare):
                for sign, right in zip(node.ops, node.comparators):
                    if isinstance(sign, (ast.Is, ast.IsNot)):
                        plain = isinstance(right, ast.Constant) and isinstance(right.value, (bool, type(None)))
                        self.assertTrue(plain, (path.name, node.lineno))

    def test_answers_is_written_in_farm_alone(self):
        found = [path.name for path, tree in trees() for node in tree.body if "answers" in names_bound(node)]
        self.assertEqual(found, ["farm.py"])

    def test_a_name_is_bound_once_at_a_top(self):
        for path, tree in trees():
            bound = names_at_top(tree)
            self.assertEqual(sorted(bound), sorted(set(bound)), path)


if __name__ == "__main__":
    unittest.main()
