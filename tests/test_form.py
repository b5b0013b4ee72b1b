"""The form of the package: the rules of the language that can be seen file by file."""

import ast
import builtins
import os
import unittest

ROOT = os.path.dirname(os.path.dirname(os.path.abspath(__file__)))
PACKAGE = os.path.join(ROOT, "fewestpours")

NODES = """Module Expr Constant Import ImportFrom alias FunctionDef ClassDef arguments arg Assign AugAssign If While For
Return Break Continue Pass Raise Assert Delete Try ExceptHandler Name Load Store Del Attribute Subscript Slice Tuple List
Dict Starred Call keyword BinOp UnaryOp BoolOp Compare IfExp ListComp DictComp comprehension JoinedStr FormattedValue
Lambda Add Sub Mult FloorDiv Mod Pow LShift RShift BitAnd BitOr BitXor Invert Not USub UAdd And Or Eq NotEq Lt LtE Gt GtE
Is IsNot In NotIn""".split()
BUILTINS = """len range enumerate zip min max sum abs sorted reversed int str bool list tuple dict isinstance ord repr any
all divmod ValueError""".split()
METHODS = """append clear copy count endswith extend find get index insert isalnum isalpha isdigit islower isspace isupper
items join keys ljust lower lstrip partition pop remove replace reverse rfind rjust rpartition rsplit rstrip setdefault
split splitlines startswith strip update upper values zfill bit_length isascii""".split()
UNUSED = """register mro elements open input law version_info attrgetter breakpoint builtins compile copyright credits
delattr dir eval exec exit gc globals help id importlib license locals methodcaller os quit super type vars sys""".split()
AT_ONCE = "list tuple dict sorted sum any all enumerate zip min max len reversed".split()
SPANS = "range zip enumerate reversed".split()


def files():
    """The names of the files of the package."""
    return sorted(name for name in os.listdir(PACKAGE) if name != "__pycache__")


def source(name):
    """The text of a file of the package."""
    with open(os.path.join(PACKAGE, name), encoding="utf-8", newline="") as told:
        return told.read()


def trees():
    """For each file its name and its syntax tree, each node with its parent."""
    for name in files():
        tree = ast.parse(source(name))
        for node in ast.walk(tree):
            for child in ast.iter_child_nodes(node):
                child.parent = node
        yield name, tree


def bound_names(tree):
    """All names that are bound anywhere in a file, but for the one that is never read."""
    for node in ast.walk(tree):
        if isinstance(node, (ast.FunctionDef, ast.ClassDef)):
            yield node.name, node
        elif isinstance(node, ast.arg):
            yield node.arg, node
        elif isinstance(node, ast.Name) and isinstance(node.ctx, ast.Store) and node.id != "_":
            yield node.id, node


def own_methods():
    """The names of all methods of the package."""
    names = set()
    for _, tree in trees():
        for node in ast.walk(tree):
            if isinstance(node, ast.ClassDef):
                names |= {part.name for part in node.body if isinstance(part, ast.FunctionDef)}
    return names


class FormTest(unittest.TestCase):
    def test_files(self):
        self.assertIn("__init__.py", files())
        self.assertLessEqual(len(files()), 100)
        for name in files():
            text = source(name)
            lines = text.split("\n")
            self.assertTrue(name.endswith(".py") and name == name.lower(), name)
            self.assertLessEqual(len(lines), 400, name)
            self.assertLessEqual(max(map(len, lines)), 120, name)
            self.assertTrue(all(" " <= sign <= "~" or sign == "\n" for sign in text), name)
            self.assertNotIn(name[:-3], dir(builtins))

    def test_statements_and_expressions(self):
        for name, tree in trees():
            for node in ast.walk(tree):
                where = (name, getattr(node, "lineno", 0), ast.dump(node)[:80])
                self.assertIn(type(node).__name__, NODES, where)
                if isinstance(node, ast.FunctionDef):
                    self.assertLessEqual(node.end_lineno - node.lineno + 1, 40, where)
                    self.assertTrue(ast.get_docstring(node) or node.name == "__init__", where)
                    self.assertFalse(node.decorator_list, where)
                if isinstance(node, ast.BinOp) and isinstance(node.op, ast.Pow):
                    self.assertIsInstance(node.right, ast.Constant, where)
                if isinstance(node, ast.Compare) and any(isinstance(op, (ast.Is, ast.IsNot)) for op in node.ops):
                    self.assertIn(node.comparators[0].value, (None, True, False), where)
                if isinstance(node, ast.Constant):
                    self.assertIsInstance(node.value, (int, str, type(None)), where)
                    self.assertFalse(isinstance(node.value, str) and "%" in node.value, where)

    def test_names(self):
        for name, tree in trees():
            imported = {part.name for node in ast.walk(tree) if isinstance(node, ast.ImportFrom) for part in node.names}
            classes = {node.name for node in ast.walk(tree) if isinstance(node, ast.ClassDef)}
            for word, node in bound_names(tree):
                where = (name, node.lineno, word)
                self.assertNotIn(word, UNUSED, where)
                self.assertNotIn(word, imported, where)
                self.assertFalse(word.startswith("__") and word != "__init__", where)
                self.assertNotIn(word, dir(builtins) if word != "__init__" else (), where)
                self.assertFalse(word in classes and not isinstance(node, ast.ClassDef), where)
            for node in ast.walk(tree):
                if isinstance(node, ast.Name) and node.id in dir(builtins) and node.id != "_":
                    self.assertIn(node.id, BUILTINS, (name, node.lineno))

    def test_methods_and_spans(self):
        own = own_methods()
        for name, tree in trees():
            for node in ast.walk(tree):
                if not isinstance(node, ast.Call):
                    continue
                where = (name, node.lineno)
                if isinstance(node.func, ast.Attribute):
                    self.assertIn(node.func.attr, set(METHODS) | own, where)
                if isinstance(node.func, ast.Name) and node.func.id in SPANS:
                    self.assertTrue(is_at_once(node), where)

    def test_imports_go_one_way(self):
        needs = {}
        for name, tree in trees():
            needs[name[:-3]] = []
            for node in ast.walk(tree):
                self.assertNotIsInstance(node, ast.Import, name)
                if isinstance(node, ast.ImportFrom):
                    package, _, file = node.module.partition(".")
                    self.assertEqual((package, node.level), ("fewestpours", 0))
                    needs[name[:-3]].append(file)
                    defined = top_names(file)
                    for part in node.names:
                        self.assertIsNone(part.asname, name)
                        self.assertIn(part.name, defined, name)
        while needs:
            free = [name for name in needs if not any(file in needs for file in needs[name])]
            self.assertTrue(free, sorted(needs))
            for name in free:
                del needs[name]

    def test_module_level(self):
        for name, tree in trees():
            for node in tree.body:
                kinds = (ast.ImportFrom, ast.FunctionDef, ast.ClassDef, ast.Assign, ast.Expr)
                self.assertIsInstance(node, kinds, (name, node.lineno))
                if isinstance(node, ast.Expr):
                    self.assertIsInstance(node.value, ast.Constant, (name, node.lineno))


def is_at_once(call):
    """Whether a range or the like is iterated where it stands."""
    parent = call.parent
    if isinstance(parent, (ast.For, ast.comprehension)):
        return parent.iter is call
    return isinstance(parent, ast.Call) and isinstance(parent.func, ast.Name) and parent.func.id in AT_ONCE


def top_names(file):
    """What a file of the package defines at its module level."""
    names = []
    for node in ast.parse(source(file + ".py")).body:
        if isinstance(node, (ast.FunctionDef, ast.ClassDef)):
            names.append(node.name)
        elif isinstance(node, ast.Assign):
            names.extend(target.id for target in node.targets)
    return names


if __name__ == "__main__":
    unittest.main()
