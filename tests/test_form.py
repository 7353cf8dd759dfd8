"""The form of the package's files, as far as it can be told by looking at them."""

import ast
import builtins
import pathlib
import re
import unittest

PACKAGE = pathlib.Path(__file__).resolve().parent.parent / "onepacking"

NODES = (
    "Module Expr Constant FunctionDef ClassDef arguments arg Import ImportFrom alias Assign AugAssign If While For "
    "Return Break Continue Pass Raise Try ExceptHandler Name Load Store List Tuple Dict Set BinOp UnaryOp BoolOp Compare "
    "IfExp Call keyword Attribute Subscript Slice ListComp comprehension JoinedStr FormattedValue Lambda "
    "Add Sub Mult FloorDiv Mod Pow LShift RShift BitOr BitAnd BitXor Invert USub UAdd Not And Or "
    "Eq NotEq Lt LtE Gt GtE Is IsNot In NotIn").split()

PYTHONS_OWN = (
    "len range enumerate zip min max sum abs sorted reversed int str bool list tuple dict set frozenset isinstance ord "
    "repr any all divmod Exception ValueError TypeError KeyError IndexError LookupError ZeroDivisionError "
    "ArithmeticError OverflowError RuntimeError NotImplementedError AttributeError StopIteration").split()

METHODS = (
    "append clear copy count endswith extend find get index insert isalnum isalpha isdigit islower isspace isupper "
    "items join keys ljust lower lstrip partition pop remove replace reverse rfind rjust rpartition rsplit rstrip "
    "setdefault split splitlines startswith strip update upper values zfill bit_length").split()

NOT_NAMES = (
    "register mro elements open input version_info with_traceback add_note attrgetter breakpoint builtins compile "
    "copyright credits delattr dir eval exec exit gc getattr globals hasattr help id importlib license locals "
    "methodcaller os quit setattr super type vars sys typing typing_extensions enum Enum IntEnum StrEnum Flag IntFlag "
    "Generic Protocol ABC ABCMeta namedtuple NamedTuple TypedDict TYPE_CHECKING abstractmethod").split()

NOT_VALUES = ("items keys values pop update append clear extend insert remove reverse setdefault sort args encode "
              "format").split()

UNDER = ("__init__", "__eq__", "__repr__", "__str__", "__len__")
WALKED = ("range", "zip", "enumerate", "reversed")
WALKERS = ("list", "tuple", "dict", "sorted", "sum", "any", "all", "enumerate", "zip", "min", "max")
KEYWORDS = {"sorted": ("key", "reverse"), "min": ("key", "default"), "max": ("key", "default"), "sum": ("start",),
            "enumerate": ("start",), "zip": ("strict",)}
NOT_TAKEN = ("Exception", "TypeError", "ArithmeticError", "OverflowError", "RuntimeError", "NotImplementedError",
             "AttributeError")


def files():
    return sorted(path for path in PACKAGE.rglob("*") if "__pycache__" not in path.parts and path.is_file())


def trees():
    return [(path.name, ast.parse(path.read_text("utf-8"))) for path in files()]


def nodes(*kinds):
    return [(name, node) for name, tree in trees() for node in ast.walk(tree) if isinstance(node, kinds)]


def bound_names():
    """Every name that's given a meaning: (file, name, node)."""
    for name, node in nodes(ast.Name, ast.arg, ast.FunctionDef, ast.ClassDef, ast.Attribute, ast.ExceptHandler):
        if isinstance(node, ast.Name) and isinstance(node.ctx, ast.Store):
            yield name, node.id, node
        elif isinstance(node, ast.Attribute) and isinstance(node.ctx, ast.Store):
            yield name, node.attr, node
        elif isinstance(node, ast.arg):
            yield name, node.arg, node
        elif isinstance(node, (ast.FunctionDef, ast.ClassDef)) or isinstance(node, ast.ExceptHandler) and node.name:
            yield name, node.name, node


def plain(node):
    if isinstance(node, (ast.Tuple, ast.List)):
        return all(plain(one) for one in node.elts)
    if isinstance(node, ast.Dict):
        return all(plain(one) for one in node.keys + node.values)
    return isinstance(node, (ast.Constant, ast.Name))


class Form(unittest.TestCase):
    def test_files(self):
        for path in files():
            text = path.read_bytes()
            self.assertRegex(path.name, r"^[a-z_][a-z0-9_]*\.py$")
            self.assertEqual(path.parent, PACKAGE)
            self.assertNotIn(path.stem, dir(builtins) + NOT_NAMES)
            self.assertTrue(all(octet == 10 or 32 <= octet < 127 for octet in text), path)
            lines = text.decode().split("\n")
            self.assertLessEqual(len(lines), 399, path)
            self.assertLessEqual(max(map(len, lines)), 120, path)

    def test_statements_and_expressions(self):
        for name, node in nodes(ast.AST):
            self.assertIn(type(node).__name__, NODES, name)
        for name, node in nodes(ast.Constant):
            self.assertIn(type(node.value), (int, str, bool, type(None)), name)
        for name, node in nodes(ast.Assign):
            self.assertEqual(len(node.targets), 1, (name, node.lineno))
        for name, node in nodes(ast.While, ast.For, ast.Try):
            self.assertFalse(isinstance(node, ast.Try) and node.finalbody, (name, node.lineno))
            self.assertFalse(not isinstance(node, ast.Try) and node.orelse, (name, node.lineno))
        for name, node in nodes(ast.ListComp):
            self.assertEqual(len(node.generators), 1, (name, node.lineno))
            self.assertLessEqual(len(node.generators[0].ifs), 1, (name, node.lineno))
        for name, node in nodes(ast.Compare):
            for how, other in zip(node.ops, node.comparators):
                if isinstance(how, (ast.Is, ast.IsNot)):
                    self.assertIsInstance(other, ast.Constant, (name, node.lineno))
        for name, node in nodes(ast.BinOp):
            if isinstance(node.op, ast.Pow):
                self.assertIsInstance(node.right, ast.Constant, (name, node.lineno))

    def test_tops(self):
        for name, tree in trees():
            self.assertTrue(ast.get_docstring(tree), name)
            bound = []
            for node in tree.body[1:]:
                if isinstance(node, ast.ImportFrom):
                    self.assertTrue(node.module.startswith("onepacking.") and node.level == 0, name)
                    self.assertTrue(all(one.asname is None and one.name != "*" for one in node.names), name)
                    bound += [one.name for one in node.names]
                elif isinstance(node, ast.Assign):
                    self.assertTrue(plain(node.value), (name, node.lineno))
                    bound.append(node.targets[0].id)
                else:
                    self.assertIsInstance(node, (ast.FunctionDef, ast.ClassDef), name)
                    bound.append(node.name)
            self.assertEqual(len(bound), len(set(bound)), name)
        self.assertEqual(nodes(ast.Import), [])

    def test_imports_stand_in_the_defining_file_and_make_no_ring(self):
        drawn = {}
        tops = {}
        for name, tree in trees():
            tops[name] = [one.name for one in tree.body if isinstance(one, (ast.FunctionDef, ast.ClassDef))]
            tops[name] += [one.targets[0].id for one in tree.body if isinstance(one, ast.Assign)]
            drawn[name] = [(one.module.split(".")[1] + ".py", part.name)
                           for one in tree.body if isinstance(one, ast.ImportFrom) for part in one.names]
        for name in drawn:
            for source, part in drawn[name]:
                self.assertIn(part, tops[source], name)
        left = {name: {source for source, part in drawn[name]} for name in drawn}
        while left:
            ready = [name for name in left if not left[name] & set(left)]
            self.assertTrue(ready, left)
            for name in ready:
                left.pop(name)

    def test_functions_and_classes(self):
        for name, node in nodes(ast.FunctionDef):
            self.assertLessEqual(node.end_lineno - node.lineno + 1, 40, (name, node.name))
            told = node.args
            self.assertFalse(node.decorator_list or told.vararg or told.kwarg or told.kwonlyargs or told.posonlyargs)
            self.assertFalse(node.returns or any(one.annotation for one in told.args), (name, node.name))
        for name, node in nodes(ast.ClassDef):
            self.assertFalse(node.decorator_list or node.keywords or len(node.bases) > 1, (name, node.name))
            for one in node.body:
                text = isinstance(one, ast.Expr) and isinstance(one.value, ast.Constant)
                self.assertTrue(text or isinstance(one, ast.FunctionDef), (name, node.name))
            methods = [one.name for one in node.body if isinstance(one, ast.FunctionDef)]
            self.assertEqual(len(methods), len(set(methods)), (name, node.name))

    def test_names(self):
        for name, word, node in bound_names():
            if word in UNDER:
                continue
            self.assertRegex(word, r"^[A-Za-z][A-Za-z0-9_]*$", name)
            self.assertNotIn(word, NOT_NAMES, name)
            if isinstance(node, ast.Attribute):
                self.assertNotIn(word, NOT_VALUES, name)
            else:
                self.assertNotIn(word, dir(builtins), (name, node.lineno))
        for name, node in nodes(ast.Name):
            if node.id in dir(builtins):
                self.assertIn(node.id, PYTHONS_OWN, (name, node.lineno))

    def test_locals_are_not_called_like_what_stands_at_the_top(self):
        for name, tree in trees():
            tops = {part.name for one in tree.body if isinstance(one, ast.ImportFrom) for part in one.names}
            tops |= {one.name for one in tree.body if isinstance(one, (ast.ClassDef, ast.FunctionDef))}
            for one in ast.walk(tree):
                if isinstance(one, ast.arg):
                    self.assertNotIn(one.arg, tops, (name, one.lineno))
                if isinstance(one, ast.Name) and isinstance(one.ctx, ast.Store):
                    self.assertNotIn(one.id, tops, (name, one.lineno))

    def test_methods_and_values(self):
        methods = {one.name for name, node in nodes(ast.ClassDef) for one in node.body
                   if isinstance(one, ast.FunctionDef)}
        values = {node.attr for name, node in nodes(ast.Attribute) if isinstance(node.ctx, ast.Store)}
        self.assertEqual(methods & values, set())
        own = set()
        for kind in (str, int, list, dict, set, bytes):
            own |= set(dir(kind))
        self.assertEqual((methods | values) & own - set(UNDER), set())
        for name, node in nodes(ast.Attribute):
            self.assertIn(node.attr, METHODS + sorted(methods | values), (name, node.lineno))

    def test_calls_of_pythons_own(self):
        for name, tree in trees():
            walked = set()
            for node in ast.walk(tree):
                if isinstance(node, (ast.For, ast.comprehension)):
                    walked.add(node.iter)
                if isinstance(node, ast.Call) and isinstance(node.func, ast.Name) and node.func.id in WALKERS:
                    walked |= set(node.args[:1])
            for node in ast.walk(tree):
                if not isinstance(node, ast.Call):
                    continue
                if isinstance(node.func, ast.Name):
                    if node.func.id in WALKED:
                        self.assertIn(node, walked, (name, node.lineno))
                    for one in node.keywords:
                        self.assertIn(one.arg, KEYWORDS.get(node.func.id, ()), (name, node.lineno))
                elif node.func.attr in ("items", "keys", "values"):
                    self.assertIn(node, walked, (name, node.lineno))

    def test_errors(self):
        for name, node in nodes(ast.Raise):
            self.assertIsInstance(node.exc, ast.Call, (name, node.lineno))
        for name, node in nodes(ast.ExceptHandler):
            self.assertIsInstance(node.type, ast.Name, (name, node.lineno))
            self.assertNotIn(node.type.id, NOT_TAKEN, (name, node.lineno))

    def test_words_that_stand_nowhere(self):
        for path in files():
            tree = ast.parse(path.read_text("utf-8"))
            for node in ast.walk(tree):
                words = [str(value) for field, value in ast.iter_fields(node) if isinstance(value, str)]
                if not isinstance(node, ast.Constant):
                    for word in words:
                        self.assertIsNone(re.search("dataclass|overload|contextmanager", word), path)


if __name__ == "__main__":
    unittest.main()
