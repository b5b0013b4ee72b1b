"""The form of the package: the rules of the language that can be seen file by file."""

import ast
import builtins
import io
import itertools
import os
import re
import tokenize
import unittest

ROOT = os.path.dirname(os.path.dirname(os.path.abspath(__file__)))
PACKAGE = os.path.join(ROOT, "fewestpours")

NODES = """Module Expr Constant Import ImportFrom alias FunctionDef ClassDef arguments arg Assign AugAssign If While For
Return Break Continue Pass Raise Assert Delete Try ExceptHandler Name Load Store Del Attribute Subscript Slice Tuple List
Dict Starred Call keyword BinOp UnaryOp BoolOp Compare IfExp ListComp DictComp SetComp comprehension JoinedStr FormattedValue
Lambda Add Sub Mult FloorDiv Mod Pow LShift RShift BitAnd BitOr BitXor Invert Not USub UAdd And Or Eq NotEq Lt LtE Gt GtE
Is IsNot In NotIn""".split()
BUILTINS = """len range enumerate zip min max sum abs sorted reversed int str bool list tuple dict isinstance ord repr any
all divmod ValueError""".split()
METHODS = """append clear copy count endswith extend find get index insert isalnum isalpha isdigit islower isspace isupper
items join keys ljust lower lstrip partition pop remove replace reverse rfind rjust rpartition rsplit rstrip setdefault
split splitlines startswith strip update upper values zfill bit_length isascii""".split()
UNUSED = """register mro elements open input law version_info attrgetter breakpoint builtins compile copyright credits
delattr dir eval exec exit gc globals help id importlib license locals methodcaller os quit super type vars sys""".split()
AT_ONCE = "list tuple dict sorted sum any all enumerate zip min max len reversed".split()
SPANS = "range zip enumerate reversed".split()
LIBRARY = {"heapq": "heappush heappop heapify heapreplace heappushpop", "math": "gcd lcm isqrt comb perm factorial",
           "itertools": "product combinations permutations"}
CHANGING = "append clear extend insert pop remove reverse setdefault update sort add discard".split()
BARRED = """type typing enum Enum IntEnum StrEnum Flag IntFlag Generic Protocol ABC ABCMeta namedtuple NamedTuple TypedDict
abstractmethod dataclass overload contextmanager register mro elements open input law""".split()


def files():
    """The names of the files of the package."""
    return sorted(name for name in os.listdir(PACKAGE) if name != "__pycache__")


def source(name):
    """The text of a file of the package."""
    with open(os.path.join(PACKAGE, name), encoding="utf-8", newline="") as told:
        return told.read()


def trees():
    """For each file its name and its syntax tree, each node with its parent."""
    for name in files():
        tree = ast.parse(source(name))
        for node in ast.walk(tree):
            for child in ast.iter_child_nodes(node):
                child.parent = node
        yield name, tree


def bound_names(tree):
    """All names that are bound anywhere in a file, but for the one that is never read."""
    for node in ast.walk(tree):
        if isinstance(node, (ast.FunctionDef, ast.ClassDef)):
            yield node.name, node
        elif isinstance(node, ast.arg):
            yield node.arg, node
        elif isinstance(node, ast.Name) and isinstance(node.ctx, ast.Store) and node.id != "_":
            yield node.id, node


def own_methods():
    """The names of all methods of the package."""
    names = set()
    for _, tree in trees():
        for node in ast.walk(tree):
            if isinstance(node, ast.ClassDef):
                names |= {part.name for part in node.body if isinstance(part, ast.FunctionDef)}
    return names


class FormTest(unittest.TestCase):
    def test_files(self):
        self.assertIn("__init__.py", files())
        self.assertLessEqual(len(files()), 100)
        for name in files():
            text = source(name)
            lines = text.split("\n")
            self.assertTrue(name.endswith(".py") and name == name.lower(), name)
            self.assertLessEqual(len(lines), 400, name)
            self.assertLessEqual(max(map(len, lines)), 120, name)
            self.assertTrue(all(" " <= sign <= "~" or sign == "\n" for sign in text), name)
            self.assertNotIn(name[:-3], dir(builtins))

    def test_statements_and_expressions(self):
        for name, tree in trees():
            for node in ast.walk(tree):
                where = (name, getattr(node, "lineno", 0), ast.dump(node)[:80])
                self.assertIn(type(node).__name__, NODES, where)
                if isinstance(node, ast.FunctionDef):
                    self.assertLessEqual(node.end_lineno - node.lineno + 1, 40, where)
                    self.assertTrue(ast.get_docstring(node) or node.name == "__init__", where)
                    self.assertFalse(node.decorator_list, where)
                if isinstance(node, ast.BinOp) and isinstance(node.op, ast.Pow):
                    self.assertIsInstance(node.right, ast.Constant, where)
                if isinstance(node, ast.Compare) and any(isinstance(op, (ast.Is, ast.IsNot)) for op in node.ops):
                    self.assertIn(node.comparators[0].value, (None, True, False), where)
                if isinstance(node, ast.Constant):
                    self.assertIsInstance(node.value, (int, str, type(None)), where)
                    self.assertFalse(isinstance(node.value, str) and "%" in node.value, where)

    def test_names(self):
        for name, tree in trees():
            imported = {part.name for node in ast.walk(tree) if isinstance(node, ast.ImportFrom) for part in node.names}
            classes = {node.name for node in ast.walk(tree) if isinstance(node, ast.ClassDef)}
            for word, node in bound_names(tree):
                where = (name, node.lineno, word)
                self.assertNotIn(word, UNUSED, where)
                self.assertNotIn(word, imported, where)
                self.assertFalse(word.startswith("__") and word not in ("__init__", "__len__"), where)
                self.assertNotIn(word, dir(builtins) if word != "__init__" else (), where)
                self.assertFalse(word in classes and not isinstance(node, ast.ClassDef), where)
            for node in ast.walk(tree):
                if isinstance(node, ast.Name) and node.id in dir(builtins) and node.id != "_":
                    self.assertIn(node.id, BUILTINS, (name, node.lineno))

    def test_methods_and_spans(self):
        own = own_methods()
        for name, tree in trees():
            for node in ast.walk(tree):
                if not isinstance(node, ast.Call):
                    continue
                where = (name, node.lineno)
                if isinstance(node.func, ast.Attribute):
                    self.assertIn(node.func.attr, set(METHODS) | own, where)
                if isinstance(node.func, ast.Name) and node.func.id in SPANS:
                    self.assertTrue(is_at_once(node), where)

    def test_imports_go_one_way(self):
        needs = {}
        for name, tree in trees():
            needs[name[:-3]] = []
            for node in ast.walk(tree):
                self.assertNotIsInstance(node, ast.Import, name)
                if isinstance(node, ast.ImportFrom):
                    package, _, file = node.module.partition(".")
                    if package in LIBRARY:
                        self.look_at_library(name, tree, node)
                        continue
                    self.assertEqual((package, node.level), ("fewestpours", 0))
                    needs[name[:-3]].append(file)
                    defined = top_names(file)
                    for part in node.names:
                        self.assertIsNone(part.asname, name)
                        self.assertIn(part.name, defined, name)
        while needs:
            free = [name for name in needs if not any(file in needs for file in needs[name])]
            self.assertTrue(free, sorted(needs))
            for name in free:
                del needs[name]

    def look_at_library(self, name, tree, told):
        """What is imported from the library is called by its bare name, in functions."""
        names = [part.name for part in told.names]
        self.assertLessEqual(set(names), set(LIBRARY[told.module].split()), name)
        self.assertFalse([part for part in told.names if part.asname], name)
        for node in ast.walk(tree):
            if isinstance(node, ast.Name) and node.id in names:
                self.assertTrue(isinstance(node.parent, ast.Call) and node.parent.func is node, (name, node.lineno))
                self.assertFalse(node.parent.keywords, (name, node.lineno))

    def test_imports_are_used(self):
        for name, tree in trees():
            used = {node.id for node in ast.walk(tree) if isinstance(node, ast.Name)}
            for node in tree.body:
                if isinstance(node, ast.ImportFrom):
                    for part in node.names:
                        self.assertIn(part.name, used, name)

    def test_loops_leave_what_they_go_over(self):
        for name, tree in trees():
            for node in ast.walk(tree):
                if isinstance(node, ast.For):
                    over = set(gone_over(node.iter))
                    for part in itertools.chain.from_iterable(map(ast.walk, node.body)):
                        self.assertFalse(over & set(changed_by(part)), (name, part))

    def test_words(self):
        for name in files():
            for token in tokenize.generate_tokens(io.StringIO(source(name)).readline):
                is_docstring = token.type == tokenize.STRING and token.string.startswith('"""')
                if token.type != tokenize.COMMENT and not is_docstring:
                    for word in re.findall(r"\w+", token.string):
                        self.assertNotIn(word, BARRED, (name, token.start))

    def test_methods_are_no_attributes(self):
        methods, attributes, read = set(), set(), set()
        for _, tree in trees():
            for node in ast.walk(tree):
                if isinstance(node, ast.ClassDef):
                    methods |= {part.name for part in node.body if isinstance(part, ast.FunctionDef)} - {"__init__", "__len__"}
                if isinstance(node, ast.Attribute) and isinstance(node.ctx, ast.Store):
                    attributes.add(node.attr)
                elif isinstance(node, ast.Attribute) and not is_called(node):
                    read.add(node.attr)
        self.assertFalse(methods & attributes)
        self.assertLessEqual(read, attributes)
        self.assertFalse(methods & set(dir(())) | methods & set(dir("")) | methods & set(dir({})) | methods & set(dir(0)))

    def test_sets_and_lengths_and_ends(self):
        for name, tree in trees():
            for node in ast.walk(tree):
                where = (name, getattr(node, "lineno", 0))
                if isinstance(node, ast.SetComp):
                    self.assertIsInstance(node.parent, ast.Call, where)
                    self.assertIn(ast.unparse(node.parent.func), ("len", "sorted"), where)
                if isinstance(node, ast.FunctionDef) and node.name == "__len__":
                    self.assertIsInstance(node.parent, ast.ClassDef, where)
                    self.assertRegex(ast.unparse(node.body[-1]), r"^return len\(self\.[a-z]+\)$", where)
                    self.assertEqual(len(node.body), 2, where)
                if isinstance(node, ast.Try):
                    for part in node.finalbody:
                        self.assertRegex(ast.unparse(part), r"^self\.[a-z]+ = [a-z]+$", where)
                    for handler in node.handlers:
                        self.assertEqual(ast.unparse(handler.type), "InvalidRow", where)

    def test_nested_functions_have_names_of_their_own(self):
        for name, tree in trees():
            for node in ast.walk(tree):
                if isinstance(node, ast.FunctionDef):
                    for inner in ast.walk(node):
                        if isinstance(inner, ast.FunctionDef) and inner is not node:
                            shared = {word for word, _ in bound_names(inner)} & names_around(node, inner)
                            self.assertFalse(shared, (name, inner.lineno))

    def test_module_level(self):
        for name, tree in trees():
            for node in tree.body:
                kinds = (ast.ImportFrom, ast.FunctionDef, ast.ClassDef, ast.Assign, ast.Expr)
                self.assertIsInstance(node, kinds, (name, node.lineno))
                if isinstance(node, ast.Expr):
                    self.assertIsInstance(node.value, ast.Constant, (name, node.lineno))


def is_at_once(call):
    """Whether a range or the like is iterated where it stands."""
    parent = call.parent
    if isinstance(parent, (ast.For, ast.comprehension)):
        return parent.iter is call
    return isinstance(parent, ast.Call) and isinstance(parent.func, ast.Name) and parent.func.id in AT_ONCE


def is_called(node):
    """Whether this is what a call calls."""
    return isinstance(node.parent, ast.Call) and node.parent.func is node


def gone_over(node):
    """The texts of what is iterated over, also by way of enumerate and the like."""
    if not isinstance(node, ast.Call):
        yield ast.unparse(node)
    elif isinstance(node.func, ast.Name) and node.func.id in ("enumerate", "zip", "reversed"):
        for part in node.args:
            yield from gone_over(part)
    elif isinstance(node.func, ast.Attribute) and node.func.attr in ("items", "keys", "values"):
        yield ast.unparse(node.func.value)


def changed_by(node):
    """The texts of what a statement or a call changes: a list that gets another item, and so on."""
    targets = []
    if isinstance(node, (ast.Assign, ast.Delete)):
        targets = node.targets
    elif isinstance(node, ast.AugAssign):
        yield ast.unparse(node.target)
        targets = [node.target]
    for target in targets:
        if isinstance(target, ast.Subscript):
            yield ast.unparse(target.value)
    if isinstance(node, ast.Call) and isinstance(node.func, ast.Attribute) and node.func.attr in CHANGING:
        yield ast.unparse(node.func.value)
    if isinstance(node, ast.Call) and isinstance(node.func, ast.Name) and node.func.id.startswith("heap"):
        yield ast.unparse(node.args[0])


def names_around(outer, inner):
    """The names that a function assigns outside of one nested in it."""
    own = {id(node) for node in ast.walk(inner)}
    return {word for word, node in bound_names(outer) if id(node) not in own and node is not outer} - {inner.name}


def top_names(file):
    """What a file of the package defines at its module level."""
    names = []
    for node in ast.parse(source(file + ".py")).body:
        if isinstance(node, (ast.FunctionDef, ast.ClassDef)):
            names.append(node.name)
        elif isinstance(node, ast.Assign):
            names.extend(target.id for target in node.targets)
    return names


if __name__ == "__main__":
    unittest.main()
