"""The rules of the Python subset, as far as a simple look at the files can see them."""

import ast
import builtins
import os
import re
import unittest

HERE = os.path.dirname(os.path.abspath(__file__))
PACKAGE = os.path.join(os.path.dirname(HERE), "samesamples")

LIBRARY = {
    "heapq": {"heappush", "heappop", "heapify", "heapreplace", "heappushpop"},
    "math": {"gcd", "lcm", "isqrt", "comb", "perm", "factorial"},
    "itertools": {"product", "combinations", "permutations", "chain", "accumulate", "pairwise", "islice", "zip_longest"},
    "collections": {"defaultdict", "deque"},
}
BUILTINS = set("""
len range enumerate zip min max sum abs sorted reversed int str bool list tuple dict set frozenset isinstance ord repr
any all divmod map iter next Exception ValueError TypeError KeyError IndexError LookupError ZeroDivisionError
ArithmeticError OverflowError RuntimeError NotImplementedError AttributeError StopIteration NotImplemented
""".split())
METHODS = set("""
append clear copy count endswith extend find get index insert isalnum isalpha isdigit islower isspace isupper items
join keys ljust lower lstrip partition pop remove replace reverse rfind rjust rpartition rsplit rstrip setdefault split
splitlines startswith strip update upper values zfill bit_length add discard title capitalize swapcase casefold center
expandtabs removeprefix removesuffix rindex isascii isdecimal isnumeric istitle isidentifier isprintable
appendleft popleft extendleft rotate
""".split())
STATEMENTS = (
    ast.Assign, ast.AugAssign, ast.AnnAssign, ast.If, ast.While, ast.For, ast.Return, ast.Break, ast.Continue, ast.Pass,
    ast.Raise, ast.Assert, ast.Delete, ast.Match, ast.With, ast.Try, ast.Expr, ast.FunctionDef, ast.ClassDef,
    ast.ImportFrom,
)
NOWHERE = "register mro elements open input law version_info with_traceback add_note".split()
NO_NAMES = """
attrgetter breakpoint builtins compile copyright credits delattr dir eval exec exit gc getattr globals hasattr help id
importlib license locals methodcaller os quit setattr super type vars sys
""".split()
NO_WORDS = """
type typing typing_extensions enum Enum IntEnum StrEnum Flag IntFlag Generic Protocol ABC ABCMeta namedtuple NamedTuple
TypedDict TYPE_CHECKING abstractmethod dataclass overload contextmanager
""".split()
NO_FILES = set("test tests testing site conftest sitecustomize usercustomize heapq math itertools collections".split())
NO_ATTRIBUTES = """
items keys values pop update append clear extend insert remove reverse setdefault sort args encode decode hex fromhex
format format_map mro
""".split()
FUNCTION_LINES, FILE_LINES, LINE_SIGNS = 40, 399, 120


def read_files():
    files = {}
    for name in sorted(os.listdir(PACKAGE)):
        if name != "__pycache__":
            with open(os.path.join(PACKAGE, name), encoding="utf-8", newline="") as held:
                files[name] = held.read()
    return files


FILES = read_files()
TREES = {name: ast.parse(text) for name, text in FILES.items() if name.endswith(".py")}


def bound_names(target):
    """The names that a target binds."""
    return [node.id for node in ast.walk(target) if isinstance(node, ast.Name)]


def module_names(tree):
    """The names that a module binds, each as often as it does."""
    names = []
    for node in tree.body:
        if isinstance(node, (ast.FunctionDef, ast.ClassDef)):
            names.append(node.name)
        elif isinstance(node, ast.ImportFrom):
            names += [alias.asname or alias.name for alias in node.names]
        elif isinstance(node, ast.Assign):
            names += [name for target in node.targets for name in bound_names(target)]
    return names


def local_names(function):
    """The parameters, variables and nested functions of a function."""
    names = [node.arg for node in ast.walk(function.args) if isinstance(node, ast.arg)]
    for node in ast.walk(function):
        if isinstance(node, ast.Name) and isinstance(node.ctx, (ast.Store, ast.Del)):
            names.append(node.id)
        elif isinstance(node, (ast.FunctionDef, ast.Lambda)) and node is not function:
            names += [one.arg for one in ast.walk(node.args) if isinstance(one, ast.arg)]
            names += [node.name] if isinstance(node, ast.FunctionDef) else []
        elif isinstance(node, ast.ExceptHandler) and node.name:
            names.append(node.name)
    return names


def docstrings(tree):
    """The nodes of the tree that are docstrings."""
    found = []
    for node in ast.walk(tree):
        if isinstance(node, (ast.Module, ast.FunctionDef, ast.ClassDef)) and node.body:
            first = node.body[0]
            if isinstance(first, ast.Expr) and isinstance(first.value, ast.Constant) and isinstance(first.value.value, str):
                found.append(first.value)
    return found


def without_comments(text, tree):
    """The rows of the file without docstrings and comments."""
    rows = text.split("\n")
    for node in docstrings(tree):
        for at in range(node.lineno - 1, node.end_lineno):
            rows[at] = ""
    return "\n".join(re.sub("#[^\"']*$", "", row) for row in rows)


class Rules(unittest.TestCase):
    def each(self, kinds):
        """All nodes of these kinds, each with where it stands."""
        for name, tree in TREES.items():
            for node in ast.walk(tree):
                if isinstance(node, kinds):
                    yield f"{name}:{getattr(node, 'lineno', 0)}", node

    def test_l1_l14_files(self):
        self.assertIn("__init__.py", FILES)
        self.assertLessEqual(len(FILES), 100)
        for name in FILES:
            self.assertRegex(name, r"^(__init__|[a-z][a-z0-9_]*)\.py$")
            self.assertNotIn(name[:-3], NO_FILES | set(dir(builtins)) | set(NOWHERE))
            self.assertFalse(name.startswith(("law_", "test_")))

    def test_l10_l14_sizes_and_characters(self):
        for name, text in FILES.items():
            self.assertTrue(text.endswith("\n"), name)
            self.assertLessEqual(text.count("\n"), FILE_LINES, name)
            for at, row in enumerate(text.split("\n")):
                self.assertLessEqual(len(row), LINE_SIGNS, f"{name}:{at + 1}")
                self.assertTrue(all(" " <= sign <= "~" for sign in row), f"{name}:{at + 1}")
        for where, node in self.each(ast.FunctionDef):
            self.assertLessEqual(node.end_lineno - node.lineno + 1, FUNCTION_LINES, where)

    def test_l2_imports(self):
        for where, node in self.each((ast.Import, ast.ImportFrom)):
            self.assertIsInstance(node, ast.ImportFrom, where)
            self.assertEqual(node.level, 0, where)
            names = {alias.name for alias in node.names}
            if node.module in LIBRARY:
                self.assertLessEqual(names, LIBRARY[node.module], where)
                self.assertFalse(any(alias.asname for alias in node.names), where)
            else:
                self.assertTrue(node.module.startswith("samesamples."), where)
                self.assertNotIn("*", names, where)
        for name, tree in TREES.items():
            past = False
            for node in tree.body:
                is_import = isinstance(node, ast.ImportFrom)
                self.assertFalse(past and is_import, f"{name}:{node.lineno}")
                past = past or not is_import and not isinstance(node, ast.Expr)

    def test_l16_imports_name_the_defining_file_and_are_used(self):
        for name, tree in TREES.items():
            used = {node.id for node in ast.walk(tree) if isinstance(node, ast.Name)}
            for node in tree.body:
                if isinstance(node, ast.ImportFrom):
                    for alias in node.names:
                        self.assertIn(alias.asname or alias.name, used, f"{name}: {alias.name}")
                        if node.module not in LIBRARY:
                            self.assertIn(alias.name, self.defined(node.module), f"{name}: {alias.name}")

    def defined(self, module):
        tree = TREES[module.partition(".")[2] + ".py"]
        defining = [node for node in tree.body if not isinstance(node, ast.ImportFrom)]
        return module_names(ast.Module(defining, []))

    def test_l16_no_ring_of_imports(self):
        needs = {}
        for name, tree in TREES.items():
            modules = [node.module for node in tree.body if isinstance(node, ast.ImportFrom)]
            needs[name] = {module.partition(".")[2] + ".py" for module in modules if module not in LIBRARY}
        left = dict(needs)
        while left:
            free = [name for name in left if not needs[name] & set(left)]
            self.assertTrue(free, sorted(left))
            left = {name: left[name] for name in left if name not in free}

    def test_l3_module_level(self):
        for name, tree in TREES.items():
            for node in tree.body:
                where = f"{name}:{node.lineno}"
                self.assertIsInstance(node, (ast.ImportFrom, ast.FunctionDef, ast.ClassDef, ast.Assign, ast.Expr), where)
                if isinstance(node, ast.Expr):
                    self.assertIs(node, tree.body[0], where)
                    self.assertIsInstance(node.value, ast.Constant, where)
                if isinstance(node, ast.Assign):
                    self.assertEqual((len(node.targets), type(node.targets[0])), (1, ast.Name), where)
                    for part in ast.walk(node.value):
                        self.assertNotIsInstance(part, (ast.Call, ast.comprehension, ast.Lambda, ast.Set), where)
                    if isinstance(node.value, (ast.List, ast.Tuple, ast.Dict)):
                        for part in list(ast.walk(node.value))[1:]:
                            self.assertNotIsInstance(part, (ast.List, ast.Dict), where)

    def test_l3_tables_hold_functions_defined_above(self):
        for name, tree in TREES.items():
            above = []
            for node in tree.body:
                if isinstance(node, ast.FunctionDef):
                    above.append(node.name)
                if isinstance(node, ast.Assign):
                    for part in ast.walk(node.value):
                        if isinstance(part, ast.Name):
                            self.assertIn(part.id, above, f"{name}:{node.lineno}")
                    above += bound_names(node.targets[0])

    def test_l4_functions(self):
        for where, node in self.each((ast.FunctionDef, ast.ClassDef)):
            self.assertEqual(node.decorator_list, [], where)
        for where, node in self.each(ast.arguments):
            for default in node.defaults + [one for one in node.kw_defaults if one is not None]:
                self.assertIsInstance(default, (ast.Constant, ast.Tuple, ast.UnaryOp), where)

    def test_l5_classes(self):
        for where, node in self.each(ast.ClassDef):
            self.assertEqual(node.keywords, [], where)
            for part in node.body:
                if not isinstance(part, ast.FunctionDef):
                    self.assertIsInstance(part, ast.Expr, where)
                    self.assertIsInstance(part.value, ast.Constant, where)
                elif part.name.startswith("__"):
                    self.assertEqual(part.name, "__init__", where)

    def test_l6_statements(self):
        for where, node in self.each(ast.stmt):
            self.assertIsInstance(node, STATEMENTS, where)
        for where, node in self.each(ast.Expr):
            self.assertIsInstance(node.value, (ast.Call, ast.Constant, ast.Yield, ast.YieldFrom), where)
        for where, node in self.each(ast.ExceptHandler):
            self.assertIsNotNone(node.type, where)

    def test_l7_expressions(self):
        for where, node in self.each(ast.Constant):
            self.assertNotIsInstance(node.value, (float, complex, bytes), where)
        for where, node in self.each((ast.Div, ast.MatMult, ast.Await, ast.Set, ast.NamedExpr)):
            self.fail(where)
        for where, node in self.each(ast.GeneratorExp):
            self.assertIn(where, {place for place, call in self.each(ast.Call) if node in call.args}, where)

    def test_l8_builtins(self):
        known = set(dir(builtins))
        for name, tree in TREES.items():
            own = set(module_names(tree))
            for node in ast.walk(tree):
                if isinstance(node, ast.Name) and node.id in known and node.id not in own:
                    self.assertIn(node.id, BUILTINS, f"{name}:{node.lineno}")

    def test_l12_l15_names(self):
        known = set(dir(builtins))
        for name, tree in TREES.items():
            names = module_names(tree)
            self.assertEqual(len(names), len(set(names)), name)
            imports = [one for node in tree.body if isinstance(node, ast.ImportFrom) for one in module_names(ast.Module([node], []))]
            classes = [node.name for node in tree.body if isinstance(node, ast.ClassDef)]
            for node in ast.walk(tree):
                if isinstance(node, ast.FunctionDef):
                    for local in local_names(node):
                        where = f"{name}:{node.lineno} {local}"
                        self.assertNotIn(local, known | set(imports) | set(classes), where)
                        self.assertRegex(local, r"^(_?[A-Za-z][A-Za-z0-9_]*|_)$", where)
            for one in names:
                self.assertNotIn(one, known, name)
                self.assertRegex(one, r"^_?[A-Za-z][A-Za-z0-9_]*$", name)
        for where, node in self.each(ast.Name):
            self.assertFalse(node.id == "_" and isinstance(node.ctx, ast.Load), where)

    def test_l15_tables_are_only_read(self):
        for name, tree in TREES.items():
            tables = {
                node.targets[0].id for node in tree.body
                if isinstance(node, ast.Assign) and isinstance(node.value, (ast.List, ast.Dict))
            }
            for node in ast.walk(tree):
                if isinstance(node, ast.Subscript) and isinstance(node.ctx, (ast.Store, ast.Del)):
                    self.assertFalse(isinstance(node.value, ast.Name) and node.value.id in tables, name)
                if isinstance(node, ast.Return) and isinstance(node.value, ast.Name):
                    self.assertNotIn(node.value.id, tables, name)

    def test_l17_names_and_words(self):
        for where, node in self.each((ast.Name, ast.arg, ast.FunctionDef, ast.ClassDef, ast.Attribute, ast.keyword)):
            names = [getattr(node, field, None) for field in ("id", "arg", "name", "attr")]
            for one in names:
                self.assertNotIn(one, NOWHERE, where)
                if not isinstance(node, ast.Attribute):
                    self.assertNotIn(one, NO_NAMES, where)
                self.assertFalse(isinstance(one, str) and one.startswith(("_wall", "_pe_", "_lay_", "_law_", "_stub_")), where)
        for name, text in FILES.items():
            bare = without_comments(text, TREES[name])
            for word in NO_WORDS:
                self.assertIsNone(re.search(rf"\b{word}\b", bare), f"{name}: {word}")

    def test_l19_errors(self):
        for where, node in self.each(ast.Raise):
            if node.exc is not None:
                self.assertIsInstance(node.exc, ast.Call, where)
                self.assertIsInstance(node.exc.func, ast.Name, where)
        known = set(dir(builtins))
        for where, node in self.each(ast.ExceptHandler):
            caught = node.type.elts if isinstance(node.type, ast.Tuple) else [node.type]
            for one in caught:
                self.assertIsInstance(one, ast.Name, where)
                self.assertNotIn(one.id, known - {"KeyError", "ZeroDivisionError"}, where)

    def test_l20_is(self):
        for where, node in self.each(ast.Compare):
            for sign, right in zip(node.ops, node.comparators):
                if isinstance(sign, (ast.Is, ast.IsNot)):
                    self.assertIsInstance(right, ast.Constant, where)
                    self.assertIn(right.value, (None, True, False), where)

    def test_l22_l25_calls(self):
        own = {node.name for _, node in self.each((ast.FunctionDef, ast.ClassDef))}
        for where, node in self.each(ast.Call):
            if isinstance(node.func, ast.Attribute):
                self.assertIn(node.func.attr, METHODS | own, where)
            if isinstance(node.func, ast.Name) and node.func.id in BUILTINS - own:
                for keyword in node.keywords:
                    self.assertIn(keyword.arg, ("key", "reverse", "default", "start", "strict"), where)
        called = {id(node.func) for _, node in self.each(ast.Call)}
        for where, node in self.each(ast.Attribute):
            if id(node) not in called:
                self.assertNotIn(node.attr, NO_ATTRIBUTES, where)

    def test_l22_calls_pass_what_is_taken(self):
        takes = {}
        for name, tree in TREES.items():
            for node in tree.body:
                if isinstance(node, ast.FunctionDef):
                    takes.setdefault(node.name, []).append((name, node.args))
        for where, node in self.each(ast.Call):
            if isinstance(node.func, ast.Name) and len(takes.get(node.func.id, ())) == 1:
                args = takes[node.func.id][0][1]
                given = len(node.args) + len(node.keywords)
                if args.vararg is None and not any(isinstance(one, ast.Starred) for one in node.args):
                    self.assertLessEqual(len(args.args) - len(args.defaults), given, where)
                    self.assertLessEqual(given, len(args.args), where)

    def test_l23_iterated_at_once(self):
        for where, node in self.each(ast.Return):
            if isinstance(node.value, ast.Call) and isinstance(node.value.func, ast.Name):
                self.assertNotIn(node.value.func.id, ("zip", "enumerate", "reversed", "range", "map"), where)

    def test_l24_sets_are_only_measured_and_sorted(self):
        measured = []
        for _, node in self.each(ast.Call):
            if isinstance(node.func, ast.Name) and node.func.id in ("len", "sorted") and not node.keywords:
                measured += [id(one) for one in node.args]
        for where, node in self.each((ast.SetComp, ast.Call)):
            if isinstance(node, ast.SetComp) or isinstance(node.func, ast.Name) and node.func.id == "set":
                self.assertIn(id(node), measured, where)

    def test_l27_numbers_and_strings(self):
        for name, tree in TREES.items():
            skipped = docstrings(tree)
            for node in ast.walk(tree):
                if isinstance(node, ast.Constant) and isinstance(node.value, str) and node not in skipped:
                    self.assertNotIn("\x25", node.value, f"{name}:{node.lineno}")
                if isinstance(node, ast.BinOp) and isinstance(node.op, ast.Pow):
                    self.assertIsInstance(node.right, ast.Constant, f"{name}:{node.lineno}")
                    self.assertTrue(0 <= node.right.value <= 64, f"{name}:{node.lineno}")
        for where, node in self.each(ast.Call):
            self.assertFalse(isinstance(node.func, ast.Name) and node.func.id in ("chr", "pow"), where)

    def test_l28_init_returns_nothing(self):
        for where, node in self.each(ast.FunctionDef):
            if node.name == "__init__":
                self.assertFalse(any(isinstance(part, ast.Return) for part in ast.walk(node)), where)

    def test_program_says_why_it_is_there(self):
        for name, tree in TREES.items():
            self.assertIsNotNone(ast.get_docstring(tree), name)
