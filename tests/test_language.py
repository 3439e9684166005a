"""The rules of the language subset that a program can check, for every file of the package."""

import ast
import builtins
import pathlib
import re
import unittest
import warnings

PACKAGE = pathlib.Path(__file__).resolve().parent.parent / "leastcomplaint"
FILES = sorted(PACKAGE.glob("*.py"))

BUILTINS = """len range enumerate zip min max sum abs sorted reversed int str bool bytes list tuple dict set frozenset
isinstance ord repr any all divmod iter next Exception ValueError TypeError KeyError IndexError LookupError
ZeroDivisionError ArithmeticError OverflowError RuntimeError NotImplementedError AttributeError StopIteration
NotImplemented super property staticmethod classmethod""".split()
METHODS = """append clear copy count endswith extend find get index insert isalnum isalpha isdigit islower isspace
isupper items join keys ljust lower lstrip partition pop remove replace reverse rfind rjust rpartition rsplit rstrip
setdefault split splitlines startswith strip update upper values zfill bit_length title capitalize swapcase casefold
center expandtabs removeprefix removesuffix rindex isascii isdecimal isnumeric istitle isidentifier isprintable
translate sort add discard""".split()
SPECIAL = """init eq repr str len enter exit call iter lt le gt ge ne add sub mul floordiv mod pow and or xor lshift
rshift neg pos invert abs bool contains getitem setitem""".split()
BARRED_NAMES = """register mro elements open input law version_info with_traceback add_note attrgetter breakpoint
compile copyright credits delattr dir eval exec exit gc getattr globals hasattr help id importlib license locals
methodcaller os quit setattr type vars sys""".split()
BARRED_WORDS = re.compile(
    r"\b(type|typing|typing_extensions|enum|Enum|IntEnum|StrEnum|Flag|IntFlag|Generic|Protocol|ABC|ABCMeta|namedtuple"
    r"|NamedTuple|TypedDict|TYPE_CHECKING|abstractmethod)\b|dataclass|overload|contextmanager"
)
BARRED_NODES = (
    ast.Global, ast.AsyncFunctionDef, ast.AsyncFor, ast.AsyncWith, ast.Await, ast.Div, ast.Import,
)


def tree_of(path):
    return ast.parse(path.read_text("utf-8"))


def trees():
    return [(path, tree_of(path)) for path in FILES]


def bound_at_top(tree):
    """The names that a file binds at module level, each as often as it is bound."""
    for node in tree.body:
        if isinstance(node, (ast.FunctionDef, ast.ClassDef)):
            yield node.name
        elif isinstance(node, ast.Assign):
            yield from [target.id for target in node.targets]
        elif isinstance(node, ast.ImportFrom):
            yield from [alias.asname or alias.name for alias in node.names]


def imports_of(tree):
    return [node for node in ast.walk(tree) if isinstance(node, ast.ImportFrom)]


def stored_names(tree):
    for node in ast.walk(tree):
        if isinstance(node, ast.Name) and isinstance(node.ctx, ast.Store):
            yield node.id
        elif isinstance(node, ast.arg):
            yield node.arg


class Language(unittest.TestCase):
    def test_folder(self):
        names = [path.name for path in PACKAGE.iterdir() if path.name != "__pycache__"]
        self.assertIn("__init__.py", names)
        for name in names:
            self.assertRegex(name, r"\A[a-z0-9_]+\.py\Z")

    def test_size_and_characters(self):
        for path, tree in trees():
            with self.subTest(path.name):
                text = path.read_text("utf-8")
                self.assertLessEqual(len(text.split("\n")), 399)
                self.assertTrue(all(len(line) <= 120 for line in text.split("\n")))
                self.assertEqual({sign for sign in text if sign != "\n" and not " " <= sign <= "~"}, set())
                for node in ast.walk(tree):
                    if isinstance(node, ast.FunctionDef):
                        self.assertLessEqual(node.end_lineno - node.lineno + 1, 40, node.name)

    def test_no_warning(self):
        with warnings.catch_warnings():
            warnings.simplefilter("error")
            for path, tree in trees():
                with self.subTest(path.name):
                    compile(path.read_text("utf-8"), str(path), "exec")

    def test_words(self):
        for path, tree in trees():
            with self.subTest(path.name):
                self.assertIsNone(BARRED_WORDS.search(path.read_text("utf-8")))
                for node in ast.walk(tree):
                    self.assertNotIsInstance(node, BARRED_NODES)
                    if isinstance(node, ast.Constant):
                        self.assertNotIsInstance(node.value, (float, complex))
                        self.assertNotIn("%", node.value if isinstance(node.value, str) else "")

    def test_module_level(self):
        for path, tree in trees():
            with self.subTest(path.name):
                for node in tree.body:
                    self.assertIsInstance(node, (ast.Expr, ast.ImportFrom, ast.FunctionDef, ast.ClassDef, ast.Assign))
                    if isinstance(node, ast.Expr):
                        self.assertIs(node, tree.body[0])
                names = list(bound_at_top(tree))
                self.assertEqual(len(names), len(set(names)))

    def test_imports(self):
        before = {}
        for path, tree in trees():
            with self.subTest(path.name):
                before[path.stem] = []
                for node in imports_of(tree):
                    self.assertIn(node, tree.body)
                    self.assertEqual(node.level, 0)
                    package, name = node.module.split(".")
                    self.assertEqual(package, "leastcomplaint")
                    before[path.stem].append(name)
                    other = tree_of(PACKAGE / f"{name}.py")
                    own = [top.name for top in other.body if isinstance(top, (ast.FunctionDef, ast.ClassDef))]
                    own += [target.id for top in other.body if isinstance(top, ast.Assign) for target in top.targets]
                    for alias in node.names:
                        self.assertIn(alias.name, own)
        while before:
            free = [name for name in before if not set(before[name]) & set(before)]
            self.assertTrue(free, f"these files import from each other: {sorted(before)}")
            for name in free:
                del before[name]

    def test_names(self):
        for path, tree in trees():
            with self.subTest(path.name):
                kept = {alias.asname or alias.name for node in imports_of(tree) for alias in node.names}
                kept |= {node.name for node in tree.body if isinstance(node, ast.ClassDef)}
                for name in stored_names(tree):
                    self.assertRegex(name, r"\A[A-Za-z][A-Za-z0-9_]*\Z")
                    self.assertNotIn(name, kept)
                    self.assertNotIn(name, dir(builtins))
                    self.assertNotIn(name, BARRED_NAMES)
                known = {*bound_at_top(tree), *stored_names(tree)}
                named = (ast.FunctionDef, ast.ExceptHandler)
                known |= {node.name for node in ast.walk(tree) if isinstance(node, named)}
                for node in ast.walk(tree):
                    if isinstance(node, ast.Name) and isinstance(node.ctx, ast.Load) and node.id not in known:
                        self.assertIn(node.id, BUILTINS)

    def test_methods_and_attributes(self):
        methods, attributes = set(), set()
        for path in FILES:
            for node in ast.walk(tree_of(path)):
                if isinstance(node, ast.ClassDef):
                    methods |= {row.name for row in node.body if isinstance(row, ast.FunctionDef)}
                if isinstance(node, ast.Attribute) and isinstance(node.ctx, ast.Store):
                    attributes.add(node.attr)
        for name in methods:
            self.assertTrue(not name.startswith("_") or name.strip("_") in SPECIAL, name)
        self.assertEqual(methods & attributes, set())
        for path, tree in trees():
            with self.subTest(path.name):
                for node in ast.walk(tree):
                    if isinstance(node, ast.Attribute):
                        self.assertIn(node.attr, {*methods, *attributes, *METHODS})

    def test_generators_and_errors(self):
        for path, tree in trees():
            with self.subTest(path.name):
                for node in ast.walk(tree):
                    if isinstance(node, ast.Call) and isinstance(node.func, ast.Name):
                        if node.func.id in ("sum", "min", "max", "sorted", "any", "all"):
                            self.assertFalse([x for x in node.args if isinstance(x, ast.GeneratorExp)])
                    if isinstance(node, ast.Raise) and node.exc is not None:
                        self.assertIsInstance(node.exc, ast.Call)

    def test_stars_in_calls(self):
        for path, tree in trees():
            with self.subTest(path.name):
                for node in ast.walk(tree):
                    for part in node.args if isinstance(node, ast.Call) else []:
                        if isinstance(part, ast.Starred):
                            self.assertIsInstance(part.value, (ast.Name, ast.Attribute))

    def test_what_is_iterated_at_once(self):
        at_once = ("list", "tuple", "dict", "sorted", "sum", "any", "all", "enumerate", "zip", "min", "max")
        for path, tree in trees():
            with self.subTest(path.name):
                places = set()
                for node in ast.walk(tree):
                    if isinstance(node, (ast.For, ast.comprehension)):
                        places.add(node.iter)
                    elif isinstance(node, ast.Call) and isinstance(node.func, ast.Name) and node.func.id in at_once:
                        places.update(node.args[:1])
                for node in ast.walk(tree):
                    if isinstance(node, ast.Call):
                        name = node.func.id if isinstance(node.func, ast.Name) else node.func.attr
                        if name in ("zip", "enumerate", "reversed", "range", "items", "keys", "values"):
                            self.assertTrue(node in places, ast.unparse(node))


class Places(unittest.TestCase):
    """Each function and class of the interface is defined in the file under which it is listed."""

    LISTED = {
        "errors": "DivisionError",
        "ratios": "ratio plus minus times compare lowest together ratio_text read_ratio",
        "games": "Game groups additive shifted part turned put_together renamed",
        "divisions": """amount is_division complaint complaints complaint_list going is_calm list_order even_division
            blended""",
        "programs": "least is_least",
        "calm": """calm_division family_against is_family count_of lack is_simple simple_parts calm_to ladder
            clash""",
        "bounds": """needed lowest_amounts need_family least_amount greatest_amount least_for greatest_for
            floor_weights shows_floor tight is_tight""",
        "compared": "implies division_between multipliers shows_implied same_divisions groups_same",
        "orders": "joined bad_pair order_against is_orderly average dividends from_dividends",
        "least": "least_division levels groups_from evidence move shows_least shows_move improved",
        "lists": "price_lists group_without shows_lists made_by closed",
        "corners": "tight_groups is_corner corners corner_shares",
        "sources": """market best_pairing best_for_sellers best_for_buyers sellers_better linked least_links
            tree_division""",
        "bench": "Bench",
        "notation": "text_of division_text family_text read_game read_division read_family read_bench report",
    }

    def test_places(self):
        for name, listed in self.LISTED.items():
            tree = tree_of(PACKAGE / f"{name}.py")
            own = [node.name for node in tree.body if isinstance(node, (ast.FunctionDef, ast.ClassDef))]
            for thing in listed.split():
                self.assertIn(thing, own)


if __name__ == "__main__":
    unittest.main()
