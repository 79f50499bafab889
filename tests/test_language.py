"""LANGUAGE.md: the rules that can be looked up in the code's text and tree."""

import ast
import builtins
import io
import re
import tokenize
from pathlib import Path

from tests.help import Case

PACKAGE = Path(__file__).resolve().parent.parent / "wholeline"
FILES = sorted(PACKAGE.glob("*.py"))
TREES = {path.stem: ast.parse(path.read_text()) for path in FILES}

BUILTINS = set("""len range enumerate zip min max sum abs sorted reversed int str bool bytes list tuple dict set
isinstance ord repr any all divmod Exception ValueError TypeError KeyError IndexError LookupError ZeroDivisionError
ArithmeticError OverflowError RuntimeError NotImplementedError AttributeError NotImplemented""".split())
METHODS = set("""append clear copy count endswith extend find get index insert isalnum isalpha isdigit islower
isspace isupper items join keys ljust lower lstrip partition pop remove replace reverse rfind rjust rpartition rsplit
rstrip setdefault split splitlines startswith strip update upper values zfill bit_length title capitalize encode
decode hex fromhex to_bytes from_bytes add discard""".split())
OWN_DUNDERS = set("""__init__ __eq__ __repr__ __str__ __len__ __enter__ __exit__ __call__ __iter__ __le__ __add__
__contains__ __getitem__""".split())
LIBRARY = {
    "heapq": {"heappush", "heappop", "heapify"}, "math": {"gcd", "lcm", "isqrt", "comb", "perm", "factorial"},
    "itertools": {"product", "combinations", "permutations"},
}
NOWHERE = {"register", "mro", "elements", "open", "input", "law", "version_info", "with_traceback", "add_note"}
WORDS = """type typing typing_extensions enum Enum IntEnum StrEnum Flag IntFlag Generic Protocol ABC ABCMeta
namedtuple NamedTuple TypedDict TYPE_CHECKING abstractmethod""".split()
PLAIN_KEYS = {"len", "int", "str"}
VIEWS = {"zip", "enumerate", "reversed", "range"}
ALLOWED = (
    ast.Module, ast.FunctionDef, ast.ClassDef, ast.Return, ast.Delete, ast.Assign, ast.AugAssign, ast.For, ast.While,
    ast.If, ast.With, ast.Raise, ast.Try, ast.Assert, ast.ImportFrom, ast.Nonlocal, ast.Expr, ast.Pass, ast.Break,
    ast.Continue, ast.BoolOp, ast.BinOp, ast.UnaryOp, ast.Lambda, ast.IfExp, ast.Dict, ast.Set, ast.ListComp,
    ast.SetComp, ast.DictComp, ast.GeneratorExp, ast.Yield, ast.YieldFrom, ast.Compare, ast.Call, ast.JoinedStr,
    ast.FormattedValue, ast.Constant, ast.Attribute, ast.Subscript, ast.Starred, ast.Name, ast.List, ast.Tuple,
    ast.Slice, ast.expr_context, ast.boolop, ast.operator, ast.unaryop, ast.cmpop, ast.comprehension,
    ast.ExceptHandler, ast.arguments, ast.arg, ast.keyword, ast.alias, ast.withitem,
)


def nodes(kind):
    for name, tree in TREES.items():
        for node in ast.walk(tree):
            if isinstance(node, kind):
                yield name, node


def functions_of(tree):
    return [node for node in ast.walk(tree) if isinstance(node, ast.FunctionDef)]


def is_call_of(node, names):
    return isinstance(node, ast.Call) and isinstance(node.func, ast.Name) and node.func.id in names


def parents_of(tree):
    return {child: node for node in ast.walk(tree) for child in ast.iter_child_nodes(node)}


def is_plain(node):
    """Whether an expression is plainly a number, or a list of plain ones, as L5 Operators asks."""
    if isinstance(node, ast.Constant):
        return isinstance(node.value, (int, str))
    if isinstance(node, ast.BinOp):
        return is_plain(node.left) and is_plain(node.right)
    if isinstance(node, (ast.List, ast.Tuple)):
        return all(is_plain(item) for item in node.elts)
    if isinstance(node, ast.ListComp):
        return is_plain(node.elt)
    return is_call_of(node, {"len", "int", "ord", "str", "repr", "range", "set"})


def called_name(node):
    """The name by which something is called, None if it has none."""
    if isinstance(node.func, ast.Attribute):
        return node.func.attr
    return node.func.id if isinstance(node.func, ast.Name) else None


def run_by_operators():
    """The pairs (file, function) of all that operators, __eq__ and __len__ run, told apart by names alone."""
    by_name = {}
    for name, node in nodes(ast.FunctionDef):
        by_name.setdefault(node.name, []).append((name, node))
    for name, node in nodes(ast.ClassDef):
        by_name.setdefault(node.name, []).extend(
            (name, row) for row in node.body if isinstance(row, ast.FunctionDef) and row.name == "__init__")
    waiting = [kind for kind in OWN_DUNDERS if kind not in ("__init__", "__call__", "__iter__", "__enter__", "__exit__")]
    reached = set()
    while waiting:
        called = waiting.pop()
        if called not in reached:
            reached.add(called)
            for _, function in by_name.get(called, []):
                waiting += [called_name(node) for node in ast.walk(function) if isinstance(node, ast.Call)]
    return [pair for called in sorted(reached - {None}) for pair in by_name.get(called, [])]


class FilesTest(Case):
    def test_the_folder(self):
        for path in PACKAGE.iterdir():
            self.assertTrue(path.suffix == ".py" or path.name == "__pycache__", path)
            self.assertRegex(path.name, "^[a-z0-9_]+(.py)?$")
        self.assertLessEqual(len(FILES), 100)

    def test_sizes_and_characters(self):
        for path in FILES:
            text = path.read_text(encoding="utf-8")
            self.assertLessEqual(len(text.splitlines()), 399, path)
            self.assertTrue(all(sign == "\n" or " " <= sign <= "~" for sign in text), path)
            self.assertLessEqual(max(len(line) for line in text.splitlines()), 120, path)
            for node in functions_of(ast.parse(text)):
                self.assertLessEqual(node.end_lineno - node.lineno + 1, 40, (path, node.name))

    def test_words(self):
        for path in FILES:
            code = []
            for token in tokenize.generate_tokens(io.StringIO(path.read_text()).readline):
                if token.type == tokenize.STRING and not token.line.strip().startswith('"""'):
                    self.assertNotIn("%", token.string, path)
                    self.assertNotRegex(token.string, r"\\[^nt\\'\"]")
                    code.append(token.string)
                elif token.type == tokenize.NAME:
                    code.append(token.string)
            for word in WORDS:
                self.assertNotIn(word, code, path)
            for word in ("(type)", "Meta", "metaclass=", "dataclass", "overload", "contextmanager", "_wall"):
                self.assertNotIn(word, path.read_text(), path)

    def test_no_percent_in_strings(self):
        for name, node in nodes(ast.Constant):
            if isinstance(node.value, str):
                self.assertNotIn("%", node.value, name)
                self.assertFalse(node.value.startswith("__") and node.value.endswith("__"), name)


class TreesTest(Case):
    def test_statements(self):
        for name, tree in TREES.items():
            for node in ast.walk(tree):
                self.assertIsInstance(node, ALLOWED, (name, getattr(node, "lineno", 0)))
            for node in functions_of(tree):
                self.assertEqual(node.decorator_list, [], (name, node.name))

    def test_module_level(self):
        for name, tree in TREES.items():
            for node in tree.body:
                self.assertIsInstance(node, (ast.Expr, ast.ImportFrom, ast.FunctionDef, ast.ClassDef, ast.Assign))
                if isinstance(node, ast.Expr):
                    self.assertIsInstance(node.value, ast.Constant, name)
            bound = [node.name for node in tree.body if isinstance(node, (ast.FunctionDef, ast.ClassDef))]
            bound += [target.id for node in tree.body if isinstance(node, ast.Assign) for target in node.targets]
            bound += [told.name for node in tree.body if isinstance(node, ast.ImportFrom) for told in node.names]
            self.assertEqual(len(bound), len(set(bound)), name)

    def test_imports(self):
        defined = {}
        for name, tree in TREES.items():
            defined[name] = {node.name for node in tree.body if isinstance(node, (ast.FunctionDef, ast.ClassDef))}
            defined[name] |= {node.targets[0].id for node in tree.body if isinstance(node, ast.Assign)}
        for name, tree in TREES.items():
            used = {node.id for node in ast.walk(tree) if isinstance(node, ast.Name)}
            for node in ast.walk(tree):
                if isinstance(node, ast.ImportFrom):
                    self.assertIn(node, tree.body)
                    self.assertEqual(node.level, 0)
                    own = defined.get(node.module.removeprefix("wholeline."), set())
                    for told in node.names:
                        self.assertIsNone(told.asname)
                        self.assertIn(told.name, LIBRARY.get(node.module, own), (name, told.name))
                        self.assertIn(told.name, used, (name, "is not used"))

    def test_no_circles(self):
        ahead = {
            name: {node.module.removeprefix("wholeline.") for node in tree.body if isinstance(node, ast.ImportFrom)}
            for name, tree in TREES.items()
        }
        placed = set(LIBRARY)
        while len(placed) < len(TREES) + len(LIBRARY):
            ready = {name for name in ahead if name not in placed and ahead[name] <= placed}
            self.assertTrue(ready, ahead)
            placed |= ready

    def test_names(self):
        every = set(dir(builtins))
        for name, tree in TREES.items():
            imports = {told.name for node in tree.body if isinstance(node, ast.ImportFrom) for told in node.names}
            classes = {node.name for node in tree.body if isinstance(node, ast.ClassDef)}
            for node in functions_of(tree):
                own = {arg.arg for arg in ast.walk(node) if isinstance(arg, ast.arg)}
                own |= {at.id for at in ast.walk(node) if isinstance(at, ast.Name) and isinstance(at.ctx, ast.Store)}
                self.assertFalse(own & (imports | classes), (name, node.name))
                self.assertFalse((own | {node.name}) & (NOWHERE | {"id", "dir", "vars"}), (name, node.name))
                self.assertFalse(own & every, (name, node.name, own & every))
                if node.name.startswith("__"):
                    self.assertIn(node.name, OWN_DUNDERS)
            for node in tree.body:
                if isinstance(node, ast.FunctionDef):
                    self.assertNotIn(node.name, every)
            for node in ast.walk(tree):
                if isinstance(node, ast.Name) and isinstance(node.ctx, ast.Load) and node.id in every:
                    self.assertIn(node.id, BUILTINS, (name, node.lineno))
                if isinstance(node, ast.Name) and isinstance(node.ctx, ast.Load):
                    self.assertNotEqual(node.id, "_", (name, node.lineno))

    def test_attributes(self):
        assigned = {node.attr for _, node in nodes(ast.Attribute) if isinstance(node.ctx, ast.Store)}
        methods = {
            row.name for _, node in nodes(ast.ClassDef) for row in node.body if isinstance(row, ast.FunctionDef)
        }
        builtin = {word for kind in (str, int, list, dict, set, bytes, tuple) for word in dir(kind)}
        for name, node in nodes(ast.Attribute):
            if node.attr in ("__class__", "__name__"):
                # L8 Class names: both stand together, behind a parameter.
                self.assertIn(ast.unparse(node), ("self.__class__", "self.__class__.__name__"), name)
                continue
            self.assertTrue(node.attr in assigned | methods | METHODS, (name, node.lineno, node.attr))
            self.assertFalse(node.attr in builtin - METHODS, (name, node.lineno, node.attr))
        for name, node in nodes(ast.ClassDef):
            own = {row.name for row in node.body if isinstance(row, ast.FunctionDef)}
            stored = {at.attr for at in ast.walk(node) if isinstance(at, ast.Attribute) and isinstance(at.ctx, ast.Store)}
            self.assertFalse(own & stored, (name, node.name))
            self.assertFalse((own | stored) & (builtin - {"index", "count", "title"} - OWN_DUNDERS), (name, node.name))

    def test_comparing_classes(self):
        """L5 Operators: with classes that compare, these see plain numbers only, and no generator expressions."""
        self.assertFalse(list(nodes(ast.GeneratorExp)))
        for name, node in nodes(ast.Call):
            if is_call_of(node, {"min", "max", "sorted"}):
                keys = [told.value.id for told in node.keywords if told.arg == "key"]
                plain = any(is_plain(told) for told in node.args)
                self.assertTrue(plain or (keys and keys[0] in PLAIN_KEYS), (name, node.lineno))
            if is_call_of(node, {"any", "all"}):
                self.assertIsInstance(node.args[0], ast.ListComp, (name, node.lineno))
            if isinstance(node.func, ast.Attribute):
                self.assertNotEqual(node.func.attr, "sort", (name, node.lineno))
            if is_call_of(node, {"reversed"}):
                self.assertTrue(is_call_of(node.args[0], {"list", "tuple", "sorted", "range"}), (name, node.lineno))

    def test_iterated_at_once(self):
        generators = {
            node.name for _, node in nodes(ast.FunctionDef)
            if any(isinstance(row, (ast.Yield, ast.YieldFrom)) for row in ast.walk(node))
        }
        takers = {"list", "tuple", "dict", "sorted", "sum", "any", "all", "enumerate", "zip", "len", "reversed"}
        for name, tree in TREES.items():
            parents = parents_of(tree)
            for node in ast.walk(tree):
                if is_call_of(node, VIEWS | generators):
                    parent = parents[node]
                    looped = isinstance(parent, (ast.For, ast.comprehension)) and parent.iter is node
                    self.assertTrue(looped or is_call_of(parent, takers), (name, node.lineno))
        names = [node.name for _, node in nodes(ast.FunctionDef)]
        for generator in generators:
            self.assertEqual(names.count(generator), 1, generator)

    def test_sets(self):
        for name, tree in TREES.items():
            parents = parents_of(tree)
            for node in ast.walk(tree):
                if is_call_of(node, {"set"}) or isinstance(node, (ast.Set, ast.SetComp)):
                    parent = parents[node]
                    stored = isinstance(parent, ast.Assign) and isinstance(parent.targets[0], ast.Name)
                    self.assertTrue(stored or is_call_of(parent, {"sorted", "len"}), (name, node.lineno))

    def test_is(self):
        for name, node in nodes(ast.Compare):
            for sign, right in zip(node.ops, node.comparators):
                if isinstance(sign, (ast.Is, ast.IsNot)):
                    self.assertIsInstance(right, ast.Constant, (name, node.lineno))

    def test_errors(self):
        kinds = {node.name for _, node in nodes(ast.ClassDef)} | {"TypeError"}
        for name, node in nodes(ast.Raise):
            self.assertTrue(is_call_of(node.exc, kinds), (name, node.lineno))
        own = {node.name for node in TREES["errors"].body if isinstance(node, ast.ClassDef)}
        for name, node in nodes(ast.ExceptHandler):
            caught = node.type.elts if isinstance(node.type, ast.Tuple) else [node.type]
            self.assertTrue({told.id for told in caught} <= own, (name, node.lineno))
        for name, node in nodes(ast.Try):
            self.assertFalse(node.finalbody, (name, node.lineno))
            # Errors with keywords would only let their attributes be read.
            self.assertTrue(node.handlers, (name, node.lineno))

    def test_tables_are_only_read(self):
        """L15: a list or a dict at module level is only read where it stands, never passed on."""
        for name, tree in TREES.items():
            tables = {
                node.targets[0].id for node in tree.body
                if isinstance(node, ast.Assign) and isinstance(node.value, (ast.Dict, ast.List))
            }
            parents = parents_of(tree)
            for node in ast.walk(tree):
                if isinstance(node, ast.Name) and node.id in tables and isinstance(node.ctx, ast.Load):
                    parent = parents[node]
                    read = isinstance(parent, ast.Subscript) and parent.value is node and isinstance(parent.ctx, ast.Load)
                    tested = isinstance(parent, ast.Compare) and isinstance(parent.ops[0], (ast.In, ast.NotIn))
                    asked = isinstance(parent, ast.Attribute) and parent.attr == "get"
                    self.assertTrue(read or tested or asked, (name, node.lineno))

    def test_leaving_a_with(self):
        """L6 With: what stands in `__exit__` puts attributes back, and nothing else."""
        for name, node in nodes(ast.FunctionDef):
            if node.name == "__exit__":
                for row in node.body:
                    self.assertIsInstance(row, ast.Assign, name)
                    for side in (row.targets[0], row.value):
                        self.assertIsInstance(side, ast.Attribute, name)

    def test_calls_with_stars(self):
        """L7: beside two stars stand only names, and these are the only stars of calls."""
        for name, node in nodes(ast.Call):
            self.assertFalse([told for told in node.args if isinstance(told, ast.Starred)], (name, node.lineno))
            if [told for told in node.keywords if told.arg is None]:
                self.assertEqual(len(node.keywords), 1, (name, node.lineno))
                for told in [*node.args, node.keywords[0].value]:
                    self.assertIsInstance(told, ast.Name, (name, node.lineno))

    def test_stars(self):
        """L4: what stands behind a star among parameters is passed by keyword, and no star takes the rest."""
        for name, node in nodes(ast.FunctionDef):
            self.assertIsNone(node.args.vararg, (name, node.name))
            self.assertIsNone(node.args.kwarg, (name, node.name))

    def test_remainders_are_of_numbers(self):
        """L7 Bytes: the left side of each remainder is plainly a number."""
        for name, node in nodes(ast.BinOp):
            if isinstance(node.op, ast.Mod):
                self.assertTrue(is_call_of(node.left, {"int", "len"}), (name, node.lineno))
            self.assertNotIsInstance(node.op, ast.Div, (name, node.lineno))

    def test_lengths(self):
        for name, node in nodes(ast.FunctionDef):
            if node.name == "__len__":
                self.assertEqual(len(node.body), 1, name)
                self.assertTrue(is_call_of(node.body[0].value, {"len"}), name)

    def test_what_operators_call(self):
        """L5 Operators: what an operator, __eq__ or __len__ runs calls no name that a class stores."""
        stored = {node.attr for _, node in nodes(ast.Attribute) if isinstance(node.ctx, ast.Store)}
        for name, function in run_by_operators():
            for node in ast.walk(function):
                if isinstance(node, ast.Call):
                    self.assertNotIn(called_name(node), stored, (name, node.lineno))
                    # Nothing is called but what has a name: no items, no results of other calls.
                    self.assertIsNotNone(called_name(node), (name, node.lineno))

    def test_operators_change_nothing(self):
        """L5 Operators, L28: on the way of an operator nothing is stored, and no list is changed."""
        changing = {"append", "clear", "extend", "insert", "pop", "remove", "reverse", "setdefault", "update", "add"}
        for name, function in run_by_operators():
            for node in ast.walk(function):
                if isinstance(node, (ast.Attribute, ast.Subscript)) and function.name != "__init__":
                    self.assertIsInstance(node.ctx, ast.Load, (name, node.lineno))
                if isinstance(node, ast.Call) and isinstance(node.func, ast.Attribute):
                    self.assertNotIn(node.func.attr, changing, (name, node.lineno))
