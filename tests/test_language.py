"""The files of the package keep to the subset of Python in which the program is written, as far as this is seen here.

Each test has the number of the rule that it looks at.
"""

import ast
import os
import re
import unittest

ROOT = os.path.join(os.path.dirname(os.path.abspath(__file__)), "..", "fewbreak")
BUILTINS = set("""len range enumerate zip min max sum abs sorted reversed int str bool bytes list tuple dict set frozenset
isinstance ord repr any all divmod Exception ValueError TypeError KeyError IndexError LookupError ZeroDivisionError
ArithmeticError OverflowError RuntimeError NotImplementedError AttributeError NotImplemented property staticmethod
classmethod super iter next map""".split())
METHODS = set("""append clear copy count endswith extend find get index insert isalnum isalpha isdigit islower isspace
isupper items join keys ljust lower lstrip partition pop remove replace reverse rfind rjust rpartition rsplit rstrip
setdefault split splitlines startswith strip update upper values zfill bit_length sort add discard""".split())
DUNDERS = set("""__init__ __eq__ __repr__ __str__ __len__ __contains__ __and__ __or__ __rshift__ __bool__""".split())
WORDS = """typing typing_extensions enum Enum IntEnum StrEnum Flag IntFlag Generic Protocol ABC ABCMeta namedtuple
NamedTuple TypedDict TYPE_CHECKING abstractmethod dataclass overload contextmanager register mro elements open input law
version_info with_traceback add_note""".split()
STATEMENTS = (ast.Assign, ast.AugAssign, ast.If, ast.While, ast.For, ast.Return, ast.Break, ast.Continue, ast.Pass,
              ast.Raise, ast.Assert, ast.Delete, ast.Expr, ast.FunctionDef, ast.ClassDef, ast.ImportFrom, ast.Try)
TAKERS = set("list tuple dict sorted sum any all enumerate zip min max".split())


def files():
    found = {}
    for name in sorted(os.listdir(ROOT)):
        if name != "__pycache__":
            with open(os.path.join(ROOT, name), encoding="utf-8") as file:
                found[name] = file.read()
    return found


def walk(tree):
    """All nodes, each with the nodes around it, the nearest one last."""
    waiting = [(tree, [])]
    while waiting:
        node, around = waiting.pop()
        yield node, around
        for child in ast.iter_child_nodes(node):
            waiting.append((child, around + [node]))


def is_plain(node, functions=()):
    """Whether a value is plain; a list or dict may also have functions that are defined above it."""
    if isinstance(node, ast.Name):
        return node.id in functions
    if isinstance(node, ast.UnaryOp) and isinstance(node.op, ast.USub):
        return isinstance(node.operand, ast.Constant)
    if isinstance(node, (ast.Tuple, ast.List)):
        return all(is_plain(one, functions) for one in node.elts)
    if isinstance(node, ast.Dict):
        return all(is_plain(one, functions) for one in node.keys + node.values)
    return isinstance(node, ast.Constant)


def is_call_of(node, names):
    return isinstance(node, ast.Call) and isinstance(node.func, ast.Name) and node.func.id in names


class LanguageTest(unittest.TestCase):
    @classmethod
    def setUpClass(cls):
        cls.texts = files()
        cls.trees = {name: ast.parse(text) for name, text in cls.texts.items()}
        cls.classes, cls.methods, cls.generators, cls.functions = set(), set(), set(), set()
        for tree in cls.trees.values():
            for node, around in walk(tree):
                if isinstance(node, ast.ClassDef):
                    cls.classes.add(node.name)
                if isinstance(node, ast.FunctionDef):
                    inside = [one for one, above in walk(node) if not any(
                        isinstance(up, (ast.FunctionDef, ast.Lambda)) and up is not node for up in above)]
                    if any(isinstance(one, (ast.Yield, ast.YieldFrom)) for one in inside):
                        cls.generators.add(node.name)
                    (cls.methods if isinstance(around[-1], ast.ClassDef) else cls.functions).add(node.name)

    def nodes(self, *kinds):
        for name, tree in self.trees.items():
            for node, around in walk(tree):
                if isinstance(node, kinds):
                    yield f"{name}:{getattr(node, 'lineno', 0)}", node, around

    def test_l1_l10_l14_files(self):
        self.assertIn("__init__.py", self.texts)
        for name, text in self.texts.items():
            self.assertRegex(name, r"^[a-z_][a-z0-9_]*\.py$")
            self.assertTrue(all(" " <= one <= "~" or one == "\n" for one in text), name)
            lines = text.split("\n")
            self.assertLess(len(lines), 400, name)
            self.assertLessEqual(max(map(len, lines)), 120, name)
        for place, node, _ in self.nodes(ast.FunctionDef):
            self.assertLessEqual(node.end_lineno - node.lineno + 1, 40, place)

    def test_l2_l16_imports(self):
        uses = {}
        for name, tree in self.trees.items():
            uses[name] = set()
            for node, around in walk(tree):
                self.assertNotIsInstance(node, ast.Import)
                if isinstance(node, ast.ImportFrom):
                    self.assertEqual((len(around), node.level), (1, 0))
                    self.assertRegex(node.module, r"^fewbreak\.[a-z]+$")
                    source = node.module.split(".")[1] + ".py"
                    uses[name].add(source)
                    for one in node.names:
                        self.assertIsNone(one.asname)
                        self.assertIn(one.name, self.bound(source, own=True), name)
        while uses:
            free = [name for name, used in uses.items() if not used & set(uses)]
            self.assertTrue(free, uses)
            for name in free:
                del uses[name]

    def bound(self, name, own=False):
        """The names that a file binds at its level."""
        found = []
        for node in self.trees[name].body:
            if isinstance(node, (ast.FunctionDef, ast.ClassDef)):
                found.append(node.name)
            elif isinstance(node, ast.Assign):
                found.extend(target.id for target in node.targets)
            elif isinstance(node, ast.ImportFrom) and not own:
                found.extend(one.name for one in node.names)
        return found

    def test_l3_l15_module_level(self):
        for name, tree in self.trees.items():
            self.assertIsNotNone(ast.get_docstring(tree), name)
            for at, node in enumerate(tree.body):
                if isinstance(node, ast.Assign):
                    self.assertEqual(len(node.targets), 1)
                    above = [one.name for one in tree.body[:at] if isinstance(one, ast.FunctionDef)]
                    self.assertTrue(is_plain(node.value, above), f"{name}:{node.lineno}")
                else:
                    kinds = (ast.ImportFrom, ast.FunctionDef, ast.ClassDef) + ((ast.Expr,) if at == 0 else ())
                    self.assertIsInstance(node, kinds, name)
            bound = self.bound(name)
            self.assertEqual(len(bound), len(set(bound)), name)
            taken = [one for one in bound if one not in self.bound(name, own=True)] + list(self.classes)
            for node, around in walk(tree):
                names = []
                if isinstance(node, ast.arg):
                    names.append(node.arg)
                if isinstance(node, ast.Name) and isinstance(node.ctx, ast.Store):
                    names.append(node.id)
                if isinstance(node, ast.FunctionDef) and len(around) > 1 and not isinstance(around[-1], ast.ClassDef):
                    names.append(node.name)
                for one in names:
                    self.assertNotIn(one, taken, name)
                    self.assertNotIn(one, dir(__builtins__) if not isinstance(__builtins__, dict) else __builtins__)

    def test_l3_unused_names(self):
        for name, tree in self.trees.items():
            read = {node.id for node, _ in walk(tree) if isinstance(node, ast.Name) and isinstance(node.ctx, ast.Load)}
            for node in tree.body:
                if isinstance(node, ast.ImportFrom):
                    for one in node.names:
                        self.assertIn(one.name, read, name)

    def test_l4_l5_functions_and_classes(self):
        for place, node, around in self.nodes(ast.FunctionDef):
            in_class = isinstance(around[-1], ast.ClassDef)
            for one in node.decorator_list:
                self.assertTrue(in_class and isinstance(one, ast.Name), place)
                self.assertIn(one.id, ("property", "staticmethod", "classmethod"), place)
            if node.name.startswith("__"):
                self.assertTrue(in_class and node.name in DUNDERS, place)
            self.assertIsNone(node.returns, place)
            self.assertIsNotNone(ast.get_docstring(node) if not node.name.startswith("__") and (
                in_class or len(around) == 1) else "", place)
            for one in node.args.defaults + [one for one in node.args.kw_defaults if one is not None]:
                self.assertTrue(is_plain(one) or isinstance(one, ast.Name) and one.id.isupper(), place)
        for place, node, around in self.nodes(ast.ClassDef):
            self.assertEqual((len(around), node.decorator_list, node.keywords), (1, [], []), place)
            for one in node.body:
                self.assertIsInstance(one, (ast.FunctionDef, ast.Expr, ast.Assign), place)

    def test_l6_statements(self):
        for place, node, _ in self.nodes(ast.stmt):
            self.assertIsInstance(node, STATEMENTS, place)
        for place, node, _ in self.nodes(ast.Try, ast.ExceptHandler):
            self.fail(place + ": no handler was needed so far; look at L19 before this is let")

    def test_l7_values(self):
        for place, node, around in self.nodes(ast.expr):
            self.assertNotIsInstance(node, (ast.Await, ast.NamedExpr), place)
            if isinstance(node, ast.Constant):
                self.assertNotIsInstance(node.value, (float, complex, bytes), place)
                if isinstance(node.value, str) and not self.is_docstring(node, around):
                    self.assertNotIn("%", node.value, place)
                    self.assertFalse(node.value.endswith(("._", ".__")), place)
            if isinstance(node, ast.BinOp):
                self.assertNotIsInstance(node.op, (ast.Div, ast.MatMult), place)
                if isinstance(node.op, ast.Pow):
                    self.assertIsInstance(node.right, ast.Constant, place)
            if isinstance(node, ast.GeneratorExp):
                self.fail(place + ": a list is wanted where a class has an ==")

    def is_docstring(self, node, around):
        holder = around[-2] if len(around) > 1 else None
        return isinstance(around[-1], ast.Expr) and isinstance(holder, (ast.Module, ast.ClassDef, ast.FunctionDef))

    def test_l8_l12_l17_names(self):
        for name, text in self.texts.items():
            tree = self.trees[name]
            known = set(self.bound(name))
            for node, around in walk(tree):
                if isinstance(node, ast.Name) and isinstance(node.ctx, ast.Load):
                    scope = [one for one in around if isinstance(one, (ast.FunctionDef, ast.Lambda))]
                    local = set()
                    for one in scope:
                        local |= {part.arg for part, _ in walk(one) if isinstance(part, ast.arg)}
                        local |= {part.id for part, _ in walk(one)
                                  if isinstance(part, ast.Name) and isinstance(part.ctx, ast.Store)}
                        local |= {part.name for part, _ in walk(one) if isinstance(part, ast.FunctionDef)}
                    self.assertIn(node.id, known | local | BUILTINS, f"{name}:{node.lineno}")
                    self.assertNotEqual(node.id, "_", f"{name}:{node.lineno}")
                if isinstance(node, ast.Name):
                    self.assertFalse(node.id.startswith("__"), name)
                if isinstance(node, (ast.Name, ast.arg, ast.Attribute, ast.FunctionDef, ast.keyword)):
                    word = [getattr(node, kind) for kind in ("id", "arg", "attr", "name") if hasattr(node, kind)][0]
                    self.assertNotIn(word, WORDS + ["type"], name)
            bare = re.sub(r'"""[\s\S]*?"""|#[^"\n]*$', "", text, flags=re.M)
            for word in WORDS[:21]:
                self.assertIsNone(re.search(r"\b" + word + r"\b", bare), (name, word))

    def test_l20_is(self):
        for place, node, _ in self.nodes(ast.Compare):
            for op, right in zip(node.ops, node.comparators):
                if isinstance(op, (ast.Is, ast.IsNot)):
                    self.assertTrue(isinstance(right, ast.Constant) and right.value in (None, True, False), place)

    def test_l19_raise(self):
        for place, node, _ in self.nodes(ast.Raise):
            self.assertIsInstance(node.exc, ast.Call, place)
            self.assertIn(node.exc.func.id, self.classes, place)
            self.assertIsNone(node.cause, place)

    def test_l22_l23_iterated_at_once(self):
        words = {"zip", "enumerate", "reversed", "range", "map"} | self.generators
        for place, node, around in self.nodes(ast.Call):
            views = isinstance(node.func, ast.Attribute) and node.func.attr in ("items", "keys", "values")
            if not is_call_of(node, words) and not views:
                continue
            near = around[-1]
            in_loop = isinstance(near, (ast.For, ast.comprehension)) and near.iter is node
            near_in = isinstance(near, ast.Compare) and is_call_of(node, {"range"})
            handed = is_call_of(near, TAKERS) or isinstance(near, ast.YieldFrom)
            self.assertTrue(in_loop or handed or near_in, place)
            if is_call_of(node, self.generators):
                for one in node.args:
                    self.assertIsInstance(one, (ast.Name, ast.Attribute, ast.Constant, ast.List), place)

    def test_l23_names_of_generators(self):
        for name in self.generators:
            self.assertEqual((name in self.methods) + (name in self.functions), 1, name)
            self.assertNotIn(name, METHODS)
        for place, node, around in self.nodes(ast.Yield, ast.YieldFrom):
            self.assertIsInstance(around[-1], ast.Expr, place)

    def test_l24_sets(self):
        for place, node, around in self.nodes(ast.Set, ast.SetComp, ast.Call):
            if isinstance(node, ast.Call) and not is_call_of(node, {"set", "frozenset"}):
                continue
            near = around[-1]
            self.assertTrue(is_call_of(near, {"sorted", "len"}) or isinstance(near, ast.Compare), place)

    def test_l25_l26_methods(self):
        own = self.methods
        for place, node, _ in self.nodes(ast.Call):
            if isinstance(node.func, ast.Attribute):
                self.assertIn(node.func.attr, METHODS | own, place)
                if node.func.attr in METHODS:
                    self.assertEqual(node.keywords, [], place)
        values = set()
        for value in ("", 0, [], {}, set(), b"", ()):
            values |= set(dir(value))
        for name in own - DUNDERS:
            self.assertNotIn(name, values)
        for place, node, _ in self.nodes(ast.Attribute):
            if isinstance(node.ctx, ast.Store):
                self.assertNotIn(node.attr, values | own, place)

    def is_made_string(self, node):
        joined = isinstance(node, ast.Call) and isinstance(node.func, ast.Attribute) and node.func.attr == "join"
        return isinstance(node, ast.JoinedStr) or is_call_of(node, {"str", "repr"}) or (
            joined and isinstance(node.func.value, ast.Constant))

    def test_l28_returns(self):
        for place, node, _ in self.nodes(ast.FunctionDef):
            returns = [one for one, _ in walk(node) if isinstance(one, ast.Return)]
            if node.name == "__init__":
                self.assertEqual(returns, [], place)
            if node.name == "__len__":
                self.assertTrue(all(is_call_of(one.value, {"len"}) for one in returns), place)
            if node.name in ("__repr__", "__str__", "__len__"):
                self.assertIsInstance(node.body[-1], ast.Return, place)
            if node.name in ("__repr__", "__str__"):
                for one in returns:
                    self.assertTrue(self.is_made_string(one.value), place)


if __name__ == "__main__":
    unittest.main()
