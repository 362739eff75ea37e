"""The rules of the subset that can be read off the code of the package row by row."""

import ast
import builtins
import pathlib
import re
import unittest

FOLDER = pathlib.Path(__file__).resolve().parent.parent / "leastmarks"
FILES = {path.stem: path.read_text(encoding="utf-8") for path in sorted(FOLDER.glob("*.py"))}
TREES = {name: ast.parse(text) for name, text in FILES.items()}

ALL_BUILTINS = {name for name in dir(builtins) if not name.startswith("_")}
BUILTINS = set(
    "len range enumerate zip min max sum abs sorted reversed int str bool list tuple dict set isinstance ord repr any "
    "all divmod ValueError KeyError NotImplemented".split())
METHODS = set(
    "append clear copy count endswith extend find get index insert isalnum isalpha isdigit islower isspace isupper "
    "items join keys ljust lower lstrip partition pop remove replace reverse rfind rjust rpartition rsplit rstrip "
    "setdefault split splitlines startswith strip update upper values zfill bit_length add discard".split())
NOWHERE = set("register mro elements open input law version_info with_traceback add_note".split())
NO_NAMES = set(
    "attrgetter breakpoint builtins compile copyright credits delattr dir eval exec exit gc getattr globals hasattr "
    "help id importlib license locals methodcaller os quit setattr super vars sys".split())
NO_WORDS = set(
    "typing typing_extensions enum Enum IntEnum StrEnum Flag IntFlag Generic Protocol ABC ABCMeta namedtuple "
    "NamedTuple TypedDict TYPE_CHECKING abstractmethod".split())
NO_ATTRIBUTES = set(
    "items keys values pop update append clear extend insert remove reverse setdefault sort args encode decode hex "
    "fromhex format".split())
STATEMENTS = (
    ast.FunctionDef, ast.ClassDef, ast.Return, ast.Assign, ast.AugAssign, ast.For, ast.While, ast.If, ast.Raise,
    ast.Try, ast.ImportFrom, ast.Expr, ast.Pass, ast.Break, ast.Continue, ast.Delete, ast.Assert)
INTERFACE = {
    "errors": "MarkError NoProgram NoText NoFunction NoPoint NoPlan HasFaults NoChoices NoStops NoLowered NoWrites "
              "NoSpare NoImage NoModule",
    "programs": "Program", "texts": "show read", "plans": "Plan",
    "outcomes": "outcomes proof_of judge_proof entered",
    "states": "states faults fault_path decision both_ways", "runs": "run", "lowered": "Lowered",
    "pending": "pending classes", "marks": "fewest lower shown judge_lowered judge_shown", "prices": "prices",
    "sequences": "sequence", "frames": "frame", "images": "Image", "traces": "trace active", "builds": "Build",
    "debugs": "Debug"}
METHODS_LISTED = {
    "Program": ("programs", "__eq__ functions leaves"),
    "Plan": ("plans", "__eq__ points number"),
    "Lowered": ("lowered", "__eq__ __len__ __call__"),
    "Image": ("images", "__eq__ rows table __call__"),
    "Build": ("builds", "put remove image compiled contents"),
    "Debug": ("debugs", "go log look")}


def nodes(kind):
    """(file, node) for all nodes of a kind."""
    return [(name, node) for name, tree in TREES.items() for node in ast.walk(tree) if isinstance(node, kind)]


def place(name, node):
    return "{}.py:{}".format(name, node.lineno)


def methods():
    return {node.name for _, c in nodes(ast.ClassDef) for node in c.body if isinstance(node, ast.FunctionDef)}


class FilesTest(unittest.TestCase):
    def test_l1_only_files(self):
        for path in FOLDER.iterdir():
            if path.name != "__pycache__":
                self.assertRegex(path.name, r"\A[a-z0-9_]+\.py\Z")
        for name in FILES:
            self.assertNotIn(name, ALL_BUILTINS)

    def test_l10_sizes(self):
        for name, text in FILES.items():
            rows = text.splitlines()
            self.assertLessEqual(len(rows), 399, name)
            for at, row in enumerate(rows):
                self.assertLessEqual(len(row), 120, (name, at + 1))
        for name, node in nodes(ast.FunctionDef):
            self.assertLessEqual(node.end_lineno - node.lineno + 1, 40, place(name, node))

    def test_l14_characters(self):
        for name, text in FILES.items():
            self.assertIsNone(re.search(r"[^ -~\n]", text), name)

    def test_l27_strings(self):
        for name, node in nodes(ast.Constant):
            if isinstance(node.value, str):
                self.assertNotIn("%", node.value, place(name, node))
                self.assertFalse(node.value.endswith(("._", ".__")), place(name, node))

    def test_l17_words(self):
        for name, node in nodes((ast.Name, ast.Attribute, ast.arg, ast.keyword)):
            word = getattr(node, "id", None) or getattr(node, "attr", None) or node.arg
            self.assertNotIn(word, NOWHERE | NO_WORDS, name)
            if not isinstance(node, ast.Attribute):
                self.assertNotIn(word, NO_NAMES, name)
        for name, node in nodes((ast.FunctionDef, ast.ClassDef)):
            self.assertNotIn(node.name, NOWHERE | NO_NAMES | NO_WORDS)


class ImportsTest(unittest.TestCase):
    def test_l2_l16_imports(self):
        uses = {}
        for name, tree in TREES.items():
            self.assertEqual([n for n in ast.walk(tree) if isinstance(n, ast.Import)], [])
            found = [n for n in ast.walk(tree) if isinstance(n, ast.ImportFrom)]
            for node in found:
                self.assertIn(node, tree.body)
                package, _, file = node.module.partition(".")
                self.assertEqual((package, node.level), ("leastmarks", 0))
                defined = {n.name for n in TREES[file].body if isinstance(n, (ast.FunctionDef, ast.ClassDef))}
                defined |= {n.targets[0].id for n in TREES[file].body if isinstance(n, ast.Assign)}
                for alias in node.names:
                    self.assertIn(alias.name, defined)
                    self.assertIsNone(alias.asname)
                    used = [n for n in ast.walk(tree) if isinstance(n, ast.Name) and n.id == alias.name]
                    self.assertNotEqual(used, [], (name, alias.name))
            uses[name] = {n.module.partition(".")[2] for n in found}
        while uses:
            free = [name for name in uses if not uses[name] & set(uses)]
            self.assertNotEqual(free, [], uses)
            for name in free:
                del uses[name]

    def test_interface(self):
        for name, defined in INTERFACE.items():
            names = [n.name for n in TREES[name].body if isinstance(n, (ast.FunctionDef, ast.ClassDef))]
            for word in defined.split():
                self.assertIn(word, names)
        for name, (file, listed) in METHODS_LISTED.items():
            (found,) = [n for n in TREES[file].body if isinstance(n, ast.ClassDef) and n.name == name]
            defined = {n.name for n in found.body if isinstance(n, ast.FunctionDef)}
            self.assertLessEqual(set(listed.split()), defined)


class CodeTest(unittest.TestCase):
    def test_l3_l15_module_level(self):
        for name, tree in TREES.items():
            bound = []
            for at, node in enumerate(tree.body):
                if at == 0:
                    self.assertIsInstance(node, ast.Expr)
                    self.assertIsInstance(node.value.value, str)
                elif isinstance(node, ast.ImportFrom):
                    bound += [alias.name for alias in node.names]
                elif isinstance(node, ast.Assign):
                    self.assertIsInstance(node.targets[0], ast.Name)
                    bound.append(node.targets[0].id)
                    for part in ast.walk(node.value):
                        self.assertNotIsInstance(part, (ast.Set, ast.ListComp, ast.DictComp, ast.SetComp, ast.Call))
                else:
                    self.assertIsInstance(node, (ast.FunctionDef, ast.ClassDef))
                    bound.append(node.name)
            self.assertEqual(len(bound), len(set(bound)), name)
            taken = set(bound)
            for node in ast.walk(tree):
                if isinstance(node, ast.arg):
                    self.assertNotIn(node.arg, taken, (name, node.lineno))
                if isinstance(node, ast.FunctionDef):
                    stored = [n.id for n in ast.walk(node) if isinstance(n, ast.Name) and isinstance(n.ctx, ast.Store)]
                    self.assertEqual(taken & set(stored), set(), (name, node.lineno))

    def test_l6_statements(self):
        for name, node in nodes(ast.stmt):
            self.assertIsInstance(node, STATEMENTS, place(name, node))

    def test_l4_l21_no_decorators_no_annotations(self):
        for name, node in nodes((ast.FunctionDef, ast.ClassDef)):
            self.assertEqual(node.decorator_list, [], place(name, node))
        for name, node in nodes(ast.FunctionDef):
            self.assertIsNone(node.returns, place(name, node))
        for name, node in nodes(ast.arg):
            self.assertIsNone(node.annotation, place(name, node))

    def test_l7_expressions(self):
        unwanted = (ast.GeneratorExp, ast.Await, ast.Yield, ast.YieldFrom, ast.Div, ast.Mod)
        for name, node in nodes(unwanted):
            self.fail((name, ast.dump(node)))
        for name, node in nodes(ast.Constant):
            self.assertNotIsInstance(node.value, (float, complex), place(name, node))
        for name, node in nodes(ast.keyword):
            self.assertIn(node.arg, ("key", "reverse", "default", "start", "strict"), place(name, node))

    def test_l8_l15_builtins(self):
        for name, node in nodes(ast.Name):
            if node.id in ALL_BUILTINS:
                self.assertIn(node.id, BUILTINS, place(name, node))
                self.assertIsInstance(node.ctx, ast.Load, place(name, node))
        for name, node in nodes(ast.arg):
            self.assertNotIn(node.arg, ALL_BUILTINS, place(name, node))
        for name, node in nodes((ast.FunctionDef, ast.ClassDef)):
            self.assertNotIn(node.name, ALL_BUILTINS, place(name, node))

    def test_l12_names(self):
        for name, node in nodes(ast.Name):
            if node.id == "_":
                self.assertIsInstance(node.ctx, ast.Store, place(name, node))
            else:
                self.assertRegex(node.id, r"\A_?[A-Za-z][A-Za-z0-9_]*\Z")

    def test_l20_is(self):
        for name, node in nodes(ast.Compare):
            for sign, right in zip(node.ops, node.comparators):
                if isinstance(sign, (ast.Is, ast.IsNot)):
                    self.assertIsInstance(right, ast.Constant, place(name, node))
                    self.assertTrue(right.value is None or isinstance(right.value, bool), place(name, node))

    def test_l23_iterated_at_once(self):
        lazy = ("zip", "enumerate", "reversed", "range")
        for name, tree in TREES.items():
            fine = set()
            for node in ast.walk(tree):
                if isinstance(node, (ast.For, ast.comprehension)):
                    fine.add(node.iter)
                if isinstance(node, ast.Call) and isinstance(node.func, ast.Name):
                    if node.func.id in ("list", "tuple", "dict", "sorted", "sum", "any", "all", "enumerate", "zip"):
                        fine.update(node.args[:1])
                    if node.func.id in ("len", "reversed") and ast.unparse(node.args[0]).startswith("range("):
                        fine.update(node.args)
            for node in ast.walk(tree):
                if isinstance(node, ast.Call) and isinstance(node.func, ast.Name) and node.func.id in lazy:
                    self.assertIn(node, fine, place(name, node))
                if isinstance(node, ast.Call) and isinstance(node.func, ast.Attribute):
                    if node.func.attr in ("items", "keys", "values"):
                        self.assertIn(node, fine, place(name, node))

    def test_l25_l26_methods_and_attributes(self):
        own = methods()
        called = {}
        for name, node in nodes(ast.Call):
            if isinstance(node.func, ast.Attribute):
                self.assertIn(node.func.attr, own | METHODS, place(name, node))
                called[node.func] = True
        assigned = {node.attr for _, node in nodes(ast.Attribute) if isinstance(node.ctx, ast.Store)}
        self.assertEqual(assigned & NO_ATTRIBUTES, set())
        self.assertEqual(assigned & own, set())
        for name, node in nodes(ast.Attribute):
            if node not in called and not node.attr.startswith("__"):
                self.assertIn(node.attr, assigned, place(name, node))

    def test_l28_double_underscores(self):
        for name, node in nodes(ast.FunctionDef):
            if node.name.startswith("__"):
                self.assertIn(node.name, ("__init__", "__eq__", "__len__", "__call__"), place(name, node))
            if node.name == "__init__":
                self.assertEqual([n for n in ast.walk(node) if isinstance(n, ast.Return)], [])
            if node.name in ("__eq__", "__len__"):
                self.assertIsInstance(node.body[-1], ast.Return)
