"""The package keeps to its part of the language: what of the rules can be seen in the code's form."""

import ast
import builtins
import pathlib
import re
import unittest

PACKAGE = pathlib.Path(__file__).resolve().parent.parent / "chanqueue"

STATEMENTS = (
    ast.Assign, ast.AugAssign, ast.If, ast.While, ast.For, ast.Return, ast.Break, ast.Continue, ast.Pass, ast.Raise,
    ast.Try, ast.Expr, ast.FunctionDef, ast.ClassDef, ast.ImportFrom,
)
EXPRESSIONS = (
    ast.Constant, ast.List, ast.Tuple, ast.Dict, ast.BinOp, ast.UnaryOp, ast.BoolOp, ast.Compare, ast.IfExp, ast.Call,
    ast.Attribute, ast.Subscript, ast.Slice, ast.Name, ast.ListComp,
)
OTHERS = (
    ast.Module, ast.arguments, ast.arg, ast.alias, ast.ExceptHandler, ast.comprehension, ast.expr_context, ast.operator,
    ast.unaryop, ast.boolop, ast.cmpop,
)
OWN_NAMES = (
    "len", "range", "enumerate", "zip", "min", "max", "sum", "abs", "sorted", "reversed", "int", "str", "bool", "list",
    "tuple", "dict", "isinstance", "any", "all", "divmod", "Exception", "ValueError", "KeyError", "ZeroDivisionError",
)
METHODS = (
    "append", "clear", "copy", "count", "extend", "get", "index", "insert", "items", "keys", "pop", "remove", "reverse",
    "setdefault", "update", "values",
)
WORDS_NOT_USED = (
    "type", "typing", "typing_extensions", "enum", "Enum", "IntEnum", "StrEnum", "Flag", "IntFlag", "Generic",
    "Protocol", "ABC", "ABCMeta", "namedtuple", "NamedTuple", "TypedDict", "TYPE_CHECKING", "abstractmethod",
)
NAMES_NOT_USED = ("register", "mro", "elements", "open", "input", "version_info", "format", "format_map")


def package_files():
    return sorted(path for path in PACKAGE.rglob("*") if path.is_file() and "__pycache__" not in path.parts)


def tree_of(path):
    return ast.parse(path.read_text(encoding="ascii"))


class LanguageTest(unittest.TestCase):
    def each(self, kinds):
        for path in package_files():
            for node in ast.walk(tree_of(path)):
                if isinstance(node, kinds):
                    yield f"{path.name}:{getattr(node, 'lineno', 0)}", node

    def test_files(self):
        names = [path.name for path in package_files()]
        self.assertIn("__init__.py", names)
        self.assertIn("machine.py", names)
        for name in names:
            self.assertRegex(name, r"^(__init__|[a-z][a-z0-9_]*)\.py$")
            self.assertNotIn(name[:-3], dir(builtins))

    def test_size_and_signs(self):
        for path in package_files():
            lines = path.read_text(encoding="ascii").split("\n")
            self.assertLessEqual(len(lines), 399)
            for number, line in enumerate(lines, start=1):
                self.assertRegex(line, r"^[ -~]{0,120}$", f"{path.name}:{number}")

    def test_functions_are_small_and_plain(self):
        for place, node in self.each(ast.FunctionDef):
            self.assertLessEqual(node.end_lineno - node.lineno + 1, 40, place)
            self.assertEqual(node.decorator_list, [], place)
            self.assertIsNone(node.args.vararg or node.args.kwarg, place)
            self.assertEqual(node.args.kwonlyargs + node.args.posonlyargs + node.args.defaults, [], place)

    def test_only_known_forms(self):
        for place, node in self.each(ast.AST):
            self.assertIsInstance(node, STATEMENTS + EXPRESSIONS + OTHERS, place)
            self.assertNotIsInstance(node, (ast.Div, ast.MatMult), place)

    def test_constants(self):
        for place, node in self.each(ast.Constant):
            self.assertIn(type(node.value), (int, str, bool, type(None)), place)
            if isinstance(node.value, str):
                self.assertNotIn("%", node.value, place)

    def test_assignments_have_one_plain_target(self):
        for place, node in self.each(ast.Assign):
            self.assertEqual(len(node.targets), 1, place)
            self.assertNotIsInstance(node.targets[0], ast.Tuple, place)

    def test_loops_and_tries(self):
        for place, node in self.each((ast.While, ast.For)):
            self.assertEqual(node.orelse, [], place)
        for place, node in self.each(ast.Try):
            self.assertEqual(node.finalbody, [], place)
            for handler in node.handlers:
                self.assertIn(handler.type.id, ("Outside", "NoSuchOperation"), place)

    def test_lone_expressions_are_calls_or_a_file_s_first_text(self):
        firsts = []
        for path in package_files():
            firsts.append(ast.dump(tree_of(path).body[0]))
        for place, node in self.each(ast.Expr):
            self.assertTrue(isinstance(node.value, ast.Call) or ast.dump(node) in firsts, place)

    def test_is_stands_beside_none(self):
        for place, node in self.each(ast.Compare):
            if isinstance(node.ops[0], (ast.Is, ast.IsNot)):
                self.assertIn(getattr(node.comparators[0], "value", 0), (None, True, False), place)

    def test_imports(self):
        for place, node in self.each(ast.ImportFrom):
            self.assertEqual(node.level, 0, place)
            self.assertTrue(node.module.startswith("chanqueue."), place)
            path = PACKAGE / (node.module.split(".")[1] + ".py")
            tops = self.top_names(tree_of(path))
            for alias in node.names:
                self.assertIn(alias.name, tops, place)
                self.assertIsNone(alias.asname, place)

    def top_names(self, tree):
        names = []
        for node in tree.body:
            if isinstance(node, (ast.FunctionDef, ast.ClassDef)):
                names.append(node.name)
            elif isinstance(node, ast.Assign):
                names.append(node.targets[0].id)
        return names

    def test_names_at_the_top_are_bound_once(self):
        for path in package_files():
            names = self.top_names(tree_of(path))
            self.assertEqual(len(names), len(set(names)), path.name)

    def test_no_import_comes_round(self):
        drawn = {}
        for path in package_files():
            nodes = [node for node in ast.walk(tree_of(path)) if isinstance(node, ast.ImportFrom)]
            drawn[path.stem] = {node.module.split(".")[1] for node in nodes}
        while drawn:
            free = [name for name in drawn if not drawn[name] & set(drawn)]
            self.assertNotEqual(free, [], drawn)
            drawn = {name: drawn[name] for name in drawn if name not in free}

    def test_names(self):
        for place, node in self.each(ast.Name):
            self.assertFalse(node.id.startswith("_"), place)
            self.assertNotIn(node.id, NAMES_NOT_USED, place)
            if node.id in dir(builtins):
                self.assertIsInstance(node.ctx, ast.Load, place)
                self.assertIn(node.id, OWN_NAMES, place)
        for place, node in self.each(ast.arg):
            self.assertNotIn(node.arg, dir(builtins), place)

    def test_locals_are_not_called_like_a_file_s_imports_and_classes(self):
        for path in package_files():
            tree = tree_of(path)
            taken = {node.name for node in tree.body if isinstance(node, ast.ClassDef)}
            for node in ast.walk(tree):
                if isinstance(node, ast.ImportFrom):
                    taken |= {alias.name for alias in node.names}
            for node in ast.walk(tree):
                if isinstance(node, ast.Name) and isinstance(node.ctx, ast.Store):
                    self.assertNotIn(node.id, taken, path.name)
                if isinstance(node, ast.arg):
                    self.assertNotIn(node.arg, taken, path.name)

    def test_methods_and_values(self):
        methods = set()
        values = set()
        for place, node in self.each(ast.ClassDef):
            methods |= {item.name for item in node.body if isinstance(item, ast.FunctionDef)}
        for place, node in self.each(ast.Attribute):
            self.assertFalse(node.attr.startswith("_"), place)
            self.assertNotIn(node.attr, NAMES_NOT_USED, place)
            if isinstance(node.ctx, ast.Store):
                values.add(node.attr)
        for place, node in self.each(ast.Attribute):
            self.assertIn(node.attr, methods | values | set(METHODS), place)
        self.assertEqual(methods & values, set())
        for name in values:
            for kind in (str, int, list, dict, set, bytes):
                self.assertFalse(hasattr(kind, name), name)

    def test_words_that_stand_nowhere(self):
        for path in package_files():
            words = re.findall(r"\w+", path.read_text(encoding="ascii"))
            self.assertEqual([word for word in words if word in WORDS_NOT_USED], [], path.name)

    def test_interface_stands_where_it_is_told(self):
        found = [path.name for path in package_files() if "answers" in self.top_names(tree_of(path))]
        self.assertEqual(found, ["machine.py"])


if __name__ == "__main__":
    unittest.main()
