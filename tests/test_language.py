"""The package's own files keep to the small part of Python that it is written in."""

import ast
import builtins
import os
import re
import unittest

TOP = os.path.dirname(os.path.dirname(os.path.abspath(__file__)))
PACKAGE = os.path.join(TOP, "exactrows")

BUILT_IN = set("""
    len range enumerate zip min max sum abs sorted reversed int str bool list tuple dict set frozenset isinstance
    ord repr any all divmod Exception ValueError TypeError KeyError IndexError LookupError ZeroDivisionError
    ArithmeticError OverflowError RuntimeError NotImplementedError AttributeError StopIteration
""".split())

METHODS = set("""
    append clear copy count endswith extend find get index insert isalnum isalpha isdigit islower isspace isupper
    items join keys ljust lower lstrip partition pop remove replace reverse rfind rjust rpartition rsplit rstrip
    setdefault split splitlines startswith strip update upper values zfill bit_length
""".split())

NODES = set("""
    Module Expr Constant ImportFrom alias FunctionDef arguments arg ClassDef Lambda
    Assign AugAssign If While For Return Break Continue Pass Raise Try ExceptHandler
    Name Load Store Attribute Subscript Slice Tuple List Dict Set Call keyword IfExp
    BinOp UnaryOp BoolOp Compare Add Sub Mult FloorDiv Mod Pow LShift RShift BitOr BitXor BitAnd
    Invert Not UAdd USub And Or Eq NotEq Lt LtE Gt GtE In NotIn Is IsNot
    ListComp comprehension JoinedStr FormattedValue
""".split())

WORDS = re.compile(r"\b(type|typing|typing_extensions|enum|Enum|IntEnum|StrEnum|Flag|IntFlag|Generic|Protocol|ABC|"
                   r"ABCMeta|namedtuple|NamedTuple|TypedDict|TYPE_CHECKING|abstractmethod)\b|"
                   r"dataclass|overload|contextmanager")

NAMES_NOT_USED = set("""
    register mro elements open input version_info with_traceback add_note attrgetter breakpoint builtins compile
    copyright credits delattr dir eval exec exit gc getattr globals hasattr help id importlib license locals
    methodcaller os quit setattr super type vars sys
""".split())

CHANGES = set("append clear extend insert pop remove reverse setdefault update".split())

WALKS = set("zip enumerate reversed range".split())
WALKERS = set("list tuple dict sorted sum any all enumerate zip min max".split())

# What the interface names is called from outside.
CALLS = set("mean moments weigh quant sort ranks hist most cov covs corr line pairs again shuffle".split())


def files():
    return sorted(os.listdir(PACKAGE))


def text_of(name):
    with open(os.path.join(PACKAGE, name), encoding="utf-8", newline="") as file:
        return file.read()


def trees():
    return [(name, ast.parse(text_of(name))) for name in files() if name.endswith(".py")]


def nodes(kinds):
    return [(name, node) for name, tree in trees() for node in ast.walk(tree) if isinstance(node, kinds)]


def top_names(tree):
    names = []
    for node in tree.body:
        if isinstance(node, (ast.FunctionDef, ast.ClassDef)):
            names.append(node.name)
        elif isinstance(node, ast.Assign):
            names.append(node.targets[0].id)
    return names


def imported(tree):
    return [alias.name for node in tree.body if isinstance(node, ast.ImportFrom) for alias in node.names]


def local_names(function):
    stored = {node.id for node in ast.walk(function) if isinstance(node, ast.Name) and isinstance(node.ctx, ast.Store)}
    return stored | {node.arg for node in ast.walk(function) if isinstance(node, ast.arg)}


def holds_lists(values):
    """Whether a list or dict stands somewhere within the values."""
    for value in values:
        if isinstance(value, (list, dict)) or (isinstance(value, tuple) and holds_lists(value)):
            return True
    return False


def is_walk(call):
    """Whether the call makes something that is to be walked where it stands."""
    if isinstance(call.func, ast.Attribute):
        return call.func.attr in ("items", "keys", "values")
    return isinstance(call.func, ast.Name) and call.func.id in WALKS


def walking_spots(tree):
    """The places, by their identity, at which such a thing may stand."""
    spots = set()
    for node in ast.walk(tree):
        if isinstance(node, (ast.For, ast.comprehension)):
            spots.add(id(node.iter))
        if isinstance(node, ast.Call) and isinstance(node.func, ast.Name) and node.func.id in WALKERS:
            spots |= {id(arg) for arg in node.args}
    return spots


class Texts(unittest.TestCase):
    def test_files(self):
        for name in files():
            if name != "__pycache__":
                self.assertRegex(name, r"^([a-z][a-z0-9_]*|__init__|__main__)\.py$")
        self.assertIn("__init__.py", files())

    def test_size_and_signs(self):
        for name, tree in trees():
            lines = text_of(name).split("\n")
            self.assertLessEqual(len(lines), 400, name)
            self.assertLessEqual(max(len(line) for line in lines), 120, name)
            self.assertRegex(text_of(name), r"\A[ -~\n]*\Z", name)

    def test_words(self):
        for name, tree in trees():
            self.assertIsNone(WORDS.search(text_of(name)), name)


class Statements(unittest.TestCase):
    def test_nodes(self):
        for name, node in nodes(ast.AST):
            self.assertIn(node.__class__.__name__, NODES, (name, getattr(node, "lineno", None)))

    def test_the_top_of_a_file(self):
        for name, tree in trees():
            self.assertIsNotNone(ast.get_docstring(tree), name)
            for node in tree.body[1:]:
                self.assertIsInstance(node, (ast.ImportFrom, ast.FunctionDef, ast.ClassDef, ast.Assign), name)

    def test_imports(self):
        for name, node in nodes(ast.ImportFrom):
            self.assertEqual(node.level, 0, name)
            self.assertRegex(node.module, r"^exactrows\.[a-z_]+$", name)
            self.assertTrue(all(alias.name != "*" and alias.asname is None for alias in node.names), name)

    def test_functions(self):
        for name, node in nodes(ast.FunctionDef):
            self.assertLessEqual(node.end_lineno - node.lineno + 1, 40, (name, node.name))
            self.assertEqual(node.decorator_list, [], (name, node.name))
            args = node.args
            self.assertEqual((args.vararg, args.kwarg, args.kwonlyargs, args.posonlyargs), (None, None, [], []), name)

    def test_classes(self):
        for name, node in nodes(ast.ClassDef):
            self.assertEqual(node.decorator_list, [], (name, node.name))
            self.assertLessEqual(len(node.bases), 1, (name, node.name))

    def test_loops_and_assignments(self):
        for name, node in nodes((ast.For, ast.While)):
            self.assertEqual(node.orelse, [], (name, node.lineno))
        for name, node in nodes(ast.Assign):
            self.assertEqual(len(node.targets), 1, (name, node.lineno))
            self.assertNotIsInstance(node.targets[0], (ast.Tuple, ast.List), (name, node.lineno))
        for name, node in nodes(ast.ListComp):
            self.assertEqual(len(node.generators), 1, (name, node.lineno))
            self.assertLessEqual(len(node.generators[0].ifs), 1, (name, node.lineno))


class Values(unittest.TestCase):
    def test_constants(self):
        for name, node in nodes(ast.Constant):
            self.assertTrue(node.value is None or isinstance(node.value, (int, str)), (name, node.lineno))

    def test_powers_have_a_written_exponent(self):
        for name, node in nodes(ast.BinOp):
            if isinstance(node.op, ast.Pow):
                self.assertIsInstance(node.right, ast.Constant, (name, node.lineno))
                self.assertIn(node.right.value, range(65), (name, node.lineno))

    def test_names(self):
        for name, node in nodes(ast.Name):
            self.assertRegex(node.id, r"^[A-Za-z][A-Za-z0-9_]*$", (name, node.lineno))
            self.assertNotIn(node.id, NAMES_NOT_USED, (name, node.lineno))
            if hasattr(builtins, node.id):
                self.assertIn(node.id, BUILT_IN, (name, node.lineno))
                self.assertIsInstance(node.ctx, ast.Load, (name, node.lineno))
        for name, node in nodes(ast.arg):
            self.assertRegex(node.arg, r"^[A-Za-z][A-Za-z0-9_]*$", (name, node.lineno))
            self.assertFalse(hasattr(builtins, node.arg), (name, node.lineno))
            self.assertIsNone(node.annotation, (name, node.lineno))

    def test_methods(self):
        own = {node.name for name, node in nodes(ast.FunctionDef)}
        for name, node in nodes(ast.Call):
            if isinstance(node.func, ast.Attribute):
                self.assertIn(node.func.attr, METHODS | own, (name, node.lineno))

    def test_is_stands_beside_none_true_and_false(self):
        for name, node in nodes(ast.Compare):
            for op, right in zip(node.ops, node.comparators):
                if isinstance(op, (ast.Is, ast.IsNot)):
                    self.assertIsInstance(right, ast.Constant, (name, node.lineno))
                    self.assertIn(right.value, (None, True, False), (name, node.lineno))

    def test_texts_and_numbers(self):
        for name, tree in trees():
            self.assertNotIn("\\", text_of(name), name)
        for name, node in nodes(ast.Constant):
            if isinstance(node.value, str):
                self.assertNotIn("%", node.value, (name, node.lineno))
            elif node.value is not None:
                self.assertLess(abs(int(node.value)), 10 ** 900, (name, node.lineno))

    def test_no_sets(self):
        self.assertEqual(nodes(ast.Set), [])
        self.assertEqual([where for where in nodes(ast.Name) if where[1].id in ("set", "frozenset")], [])


class Names(unittest.TestCase):
    """Each name once, from the file that defines it, and in one meaning."""

    def test_names_at_the_top_are_bound_once(self):
        for name, tree in trees():
            bound = top_names(tree) + imported(tree)
            self.assertEqual(len(bound), len(set(bound)), name)
            for word in bound:
                self.assertRegex(word, r"^[A-Za-z][A-Za-z0-9_]*$", name)
                self.assertFalse(hasattr(builtins, word), (name, word))

    def test_values_at_the_top_are_plain(self):
        for name, tree in trees():
            for node in tree.body:
                if isinstance(node, ast.Assign):
                    value = ast.literal_eval(node.value)
                    inner = list(value.items()) if isinstance(value, dict) else value
                    if isinstance(inner, (list, tuple)):
                        self.assertFalse(holds_lists(inner), (name, node.lineno))

    def test_locals_are_not_called_like_what_stands_at_the_top(self):
        for name, tree in trees():
            top = set(top_names(tree) + imported(tree))
            for node in ast.walk(tree):
                if isinstance(node, (ast.FunctionDef, ast.Lambda)):
                    self.assertEqual(local_names(node) & top, set(), (name, node.lineno))

    def test_imports_are_from_the_file_that_defines_the_name_and_used(self):
        tops = {"exactrows." + name[:-3]: top_names(tree) for name, tree in trees()}
        for name, tree in trees():
            used = {node.id for node in ast.walk(tree) if isinstance(node, ast.Name)}
            for node in tree.body:
                if isinstance(node, ast.ImportFrom):
                    for alias in node.names:
                        self.assertIn(alias.name, tops[node.module], (name, node.lineno))
                        self.assertIn(alias.name, used, (name, node.lineno))

    def test_no_two_files_draw_from_one_another(self):
        draws = {"exactrows." + name[:-3]: {node.module for node in tree.body if isinstance(node, ast.ImportFrom)}
                 for name, tree in trees()}
        left = dict(draws)
        while left:
            free = [name for name in left if not (left[name] & set(left))]
            self.assertNotEqual(free, [], sorted(left))
            for name in free:
                left.pop(name)

    def test_functions_are_used(self):
        words = [node.id for name, node in nodes(ast.Name)]
        for name, tree in trees():
            for word in top_names(tree):
                if word not in CALLS:
                    self.assertIn(word, words, name)


class Walks(unittest.TestCase):
    def test_walked_on_the_spot(self):
        for name, tree in trees():
            spots = walking_spots(tree)
            for node in ast.walk(tree):
                if isinstance(node, ast.Call) and is_walk(node):
                    self.assertIn(id(node), spots, (name, node.lineno))

    def test_what_is_walked_is_not_changed(self):
        for name, node in nodes(ast.For):
            walked = {inner.id for inner in ast.walk(node.iter) if isinstance(inner, ast.Name)}
            for inner in ast.walk(node):
                if isinstance(inner, ast.Subscript) and isinstance(inner.ctx, ast.Store):
                    self.assertNotIn(getattr(inner.value, "id", None), walked, (name, inner.lineno))
                if isinstance(inner, ast.Call) and isinstance(inner.func, ast.Attribute) and inner.func.attr in CHANGES:
                    self.assertNotIn(getattr(inner.func.value, "id", None), walked, (name, inner.lineno))

    def test_parameters_are_not_changed(self):
        for name, function in nodes(ast.FunctionDef):
            handed = {arg.arg for arg in function.args.args} - {"self"}
            for inner in ast.walk(function):
                if isinstance(inner, ast.Subscript) and isinstance(inner.ctx, ast.Store):
                    self.assertNotIn(getattr(inner.value, "id", None), handed, (name, inner.lineno))
                if isinstance(inner, ast.Call) and isinstance(inner.func, ast.Attribute) and inner.func.attr in CHANGES:
                    self.assertNotIn(getattr(inner.func.value, "id", None), handed, (name, inner.lineno))
