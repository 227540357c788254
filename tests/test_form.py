"""The package keeps to the small part of the language: those of its rules that can be seen in a file's tree."""

import ast
import builtins
import pathlib
import re
import unittest

PACKAGE = pathlib.Path(__file__).resolve().parent.parent / "violinmaker"

NODES = """Module Expr FunctionDef ClassDef arguments arg ImportFrom alias Assign AugAssign If While For Return Break
Continue Pass Call Attribute Subscript Slice Name Load Store Constant List Tuple Dict ListComp comprehension BinOp
UnaryOp BoolOp Compare IfExp Add Sub Mult FloorDiv Mod Pow USub And Or Not Eq NotEq Lt LtE Gt GtE Is IsNot In NotIn
""".split()

BUILTINS = """len range enumerate zip min max sum abs sorted reversed int str bool list tuple dict isinstance any all
divmod""".split()

METHODS = """append clear copy count extend find get index insert items keys pop remove reverse setdefault update
values""".split()

WORDS = """type typing typing_extensions enum Enum IntEnum StrEnum Flag IntFlag Generic Protocol ABC ABCMeta namedtuple
NamedTuple TypedDict TYPE_CHECKING abstractmethod""".split()


def files():
    return sorted(PACKAGE.glob("*.py"))


def names_bound(tree):
    """Every name that a file binds, with its line."""
    for node in ast.walk(tree):
        if isinstance(node, (ast.FunctionDef, ast.ClassDef)):
            yield node.name, node
        elif isinstance(node, ast.arg):
            yield node.arg, node
        elif isinstance(node, ast.Name) and isinstance(node.ctx, ast.Store):
            yield node.id, node
        elif isinstance(node, ast.Attribute) and isinstance(node.ctx, ast.Store):
            yield node.attr, node


def is_plain(value):
    if isinstance(value, ast.UnaryOp) and isinstance(value.op, ast.USub):
        return isinstance(value.operand, ast.Constant)
    if isinstance(value, ast.Tuple):
        return all(is_plain(part) for part in value.elts)
    return isinstance(value, ast.Constant)


class FormTest(unittest.TestCase):
    def trees(self):
        for path in files():
            yield path, ast.parse(path.read_text(encoding="utf-8"))

    def test_what_lies_in_the_package(self):
        lying = [path.name for path in PACKAGE.iterdir() if path.name != "__pycache__"]
        for name in lying:
            self.assertRegex(name, r"\A(__init__|[a-z][a-z0-9_]*)\.py\Z")
        self.assertIn("__init__.py", lying)

    def test_signs_and_sizes(self):
        for path in files():
            text = path.read_text(encoding="utf-8")
            rows = text.split("\n")
            self.assertRegex(text, r"\A[ -~\n]*\Z", path)
            self.assertLessEqual(len(rows), 400, path)
            self.assertLessEqual(max(len(row) for row in rows), 120, path)

    def test_functions_have_at_most_40_lines(self):
        for path, tree in self.trees():
            for node in ast.walk(tree):
                if isinstance(node, ast.FunctionDef):
                    self.assertLessEqual(node.end_lineno - node.lineno + 1, 40, (path, node.name))

    def test_words_that_stand_nowhere(self):
        for path in files():
            found = set(re.findall(r"\w+", path.read_text(encoding="utf-8"))) & set(WORDS)
            self.assertEqual(found, set(), path)

    def test_kinds_of_statements_and_values(self):
        for path, tree in self.trees():
            for node in ast.walk(tree):
                self.assertIn(node.__class__.__name__, NODES, (path, getattr(node, "lineno", 0)))
                if isinstance(node, ast.Constant):
                    self.assertIn(node.value.__class__, (int, str, bool, None.__class__), (path, node.lineno))
                if isinstance(node, (ast.For, ast.While)):
                    self.assertEqual(node.orelse, [], (path, node.lineno))
                if isinstance(node, ast.Assign):
                    self.assertEqual(len(node.targets), 1, (path, node.lineno))
                    self.assertNotIsInstance(node.targets[0], (ast.Tuple, ast.List), (path, node.lineno))
                if isinstance(node, ast.FunctionDef):
                    self.assertEqual(node.decorator_list, [], (path, node.lineno))
                    self.assertIsNone(node.args.vararg or node.args.kwarg, (path, node.lineno))

    def test_the_top_of_a_file(self):
        for path, tree in self.trees():
            self.assertTrue(ast.get_docstring(tree), path)
            names = []
            for node in tree.body[1:]:
                self.assertIsInstance(node, (ast.ImportFrom, ast.FunctionDef, ast.ClassDef, ast.Assign), path)
                if isinstance(node, ast.ImportFrom):
                    self.assertTrue(node.module.startswith("violinmaker."), path)
                    self.assertEqual((node.level, [alias.asname for alias in node.names if alias.asname]), (0, []))
                    names += [alias.name for alias in node.names]
                elif isinstance(node, ast.Assign):
                    self.assertTrue(is_plain(node.value), (path, node.lineno))
                    names.append(node.targets[0].id)
                else:
                    names.append(node.name)
            self.assertEqual(len(names), len(set(names)), path)

    def test_names(self):
        for path, tree in self.trees():
            taken = {node.name for node in ast.walk(tree) if isinstance(node, ast.ClassDef)}
            taken |= {alias.name for node in tree.body if isinstance(node, ast.ImportFrom) for alias in node.names}
            inner = {node.arg for node in ast.walk(tree) if isinstance(node, ast.arg)}
            inner |= {node.id for top in tree.body if isinstance(top, (ast.FunctionDef, ast.ClassDef))
                      for node in ast.walk(top) if isinstance(node, ast.Name) and isinstance(node.ctx, ast.Store)}
            self.assertEqual(inner & taken, set(), path)
            for name, node in names_bound(tree):
                if name != "__init__":
                    self.assertRegex(name, r"\A[A-Za-z][A-Za-z0-9_]*\Z", path)
                    self.assertFalse(hasattr(builtins, name), (path, node.lineno, name))

    def test_pythons_own_names_that_are_used(self):
        for path, tree in self.trees():
            for node in ast.walk(tree):
                if isinstance(node, ast.Name) and isinstance(node.ctx, ast.Load) and hasattr(builtins, node.id):
                    self.assertIn(node.id, BUILTINS, (path, node.lineno))
                if isinstance(node, ast.Call) and isinstance(node.func, ast.Attribute):
                    self.assertIn(node.func.attr, METHODS, (path, node.lineno))

    def test_names_come_from_the_file_that_defines_them(self):
        defined = {}
        drawn = {}
        for path, tree in self.trees():
            module = "violinmaker." + path.stem
            defined[module] = [node.targets[0].id if isinstance(node, ast.Assign) else node.name
                               for node in tree.body if isinstance(node, (ast.Assign, ast.FunctionDef, ast.ClassDef))]
            drawn[module] = [(node.module, alias.name) for node in tree.body if isinstance(node, ast.ImportFrom)
                             for alias in node.names]
        for module, pairs in drawn.items():
            for source, name in pairs:
                self.assertIn(name, defined[source], module)
        used = {name: (PACKAGE / (name.split(".")[1] + ".py")).read_text(encoding="utf-8") for name in drawn}
        for module, pairs in drawn.items():
            for _, name in pairs:
                self.assertGreater(len(re.findall(r"\b" + name + r"\b", used[module])), 1, (module, name))

    def test_no_two_files_draw_from_one_another(self):
        drawn = {"violinmaker." + path.stem: {node.module for node in tree.body if isinstance(node, ast.ImportFrom)}
                 for path, tree in self.trees()}
        while drawn:
            free = [module for module, sources in drawn.items() if not sources & set(drawn)]
            self.assertTrue(free, drawn)
            for module in free:
                drawn.pop(module)


if __name__ == "__main__":
    unittest.main()
