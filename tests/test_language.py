"""What ../shared/LANGUAGE.md asks of the package's files, as far as a look at the code can tell."""

import ast
import builtins
import pathlib
import unittest

PACKAGE = pathlib.Path(__file__).resolve().parent.parent / "trialground"
LIBRARY = {"math": {"gcd", "lcm", "isqrt", "comb", "perm", "factorial"},
           "heapq": {"heappush", "heappop", "heapify", "heapreplace", "heappushpop"},
           "itertools": {"product", "combinations", "permutations", "chain", "accumulate", "pairwise", "islice",
                         "zip_longest"},
           "collections": {"defaultdict"}}
BUILTINS = set("""len range enumerate zip min max sum abs sorted reversed int str bool bytes list tuple dict set
    frozenset isinstance ord repr any all divmod pow getattr hasattr setattr iter next map Exception ValueError TypeError
    KeyError IndexError LookupError ZeroDivisionError ArithmeticError OverflowError RuntimeError NotImplementedError
    AttributeError StopIteration NotImplemented print""".split())
UNUSED = set("""register mro elements open input law version_info with_traceback add_note attrgetter breakpoint compile
    copyright credits delattr dir eval exec exit gc globals help id importlib license locals methodcaller os quit super
    type vars sys typing typing_extensions enum Enum IntEnum StrEnum Flag IntFlag Generic Protocol ABC ABCMeta namedtuple
    NamedTuple TypedDict TYPE_CHECKING abstractmethod""".split())
METHODS = set("""append clear copy count endswith extend find get index insert isalnum isalpha isdigit islower isspace
    isupper items join keys ljust lower lstrip partition pop remove replace reverse rfind rjust rpartition rsplit rstrip
    setdefault split splitlines startswith strip update upper values zfill bit_length add discard sort isascii removeprefix
    removesuffix""".split())
# What has to be iterated where it stands, and what iterates it there.
ITERATED = {"range", "zip", "enumerate", "reversed", "map"}
VIEWS = {"items", "keys", "values"}
ITERATING = {"list", "tuple", "dict", "sorted", "sum", "any", "all", "enumerate", "zip", "min", "max", "reversed", "len"}
ITERATING |= LIBRARY["itertools"]
STATEMENTS = (ast.Import, ast.Global, ast.AsyncFunctionDef, ast.AsyncFor, ast.AsyncWith, ast.TryStar, ast.Div, ast.Await)


def sources():
    return sorted(PACKAGE.rglob("*.py"))


def bound_names(tree):
    """All names that a file gives to functions, classes, parameters and variables."""
    for node in ast.walk(tree):
        if isinstance(node, (ast.FunctionDef, ast.ClassDef)):
            yield node.name
        elif isinstance(node, ast.arg):
            yield node.arg
        elif isinstance(node, ast.Name) and isinstance(node.ctx, ast.Store):
            yield node.id


def top_names(tree):
    """The names of a file's own module level, imports included, one for each binding."""
    for node in tree.body:
        if isinstance(node, ast.ImportFrom):
            for alias in node.names:
                yield alias.name
        elif isinstance(node, (ast.FunctionDef, ast.ClassDef)):
            yield node.name
        elif isinstance(node, ast.Assign):
            for target in node.targets:
                yield target.id


def own_methods(tree):
    """The names of the methods of a file's classes."""
    return {node.name for each in ast.walk(tree) if isinstance(each, ast.ClassDef) for node in each.body
            if isinstance(node, ast.FunctionDef)}


def parents_of(tree):
    return {part: node for node in ast.walk(tree) for part in ast.iter_child_nodes(node)}


class Language(unittest.TestCase):

    def setUp(self):
        self.texts = {path: path.read_text(encoding="utf-8") for path in sources()}
        self.trees = {path: ast.parse(text) for path, text in self.texts.items()}
        self.assertTrue(self.trees)

    def test_files(self):
        for path in PACKAGE.rglob("*"):
            if "__pycache__" not in path.parts and path.is_file():
                self.assertRegex(path.name, r"^[a-z0-9_]+\.py$")
        self.assertLessEqual(len(self.trees), 100)

    def test_characters_and_sizes(self):
        for path, text in self.texts.items():
            self.assertRegex(text, r"\A[\n -~]*\Z", path)
            lines = text.split("\n")
            self.assertLessEqual(len(lines), 399, path)
            self.assertLessEqual(max(len(line) for line in lines), 120, path)
            for node in ast.walk(self.trees[path]):
                if isinstance(node, ast.FunctionDef):
                    self.assertLessEqual(node.end_lineno - node.lineno + 1, 40, (path, node.name))

    def test_module_level(self):
        for path, tree in self.trees.items():
            for node in tree.body:
                docstring = isinstance(node, ast.Expr) and isinstance(node.value, ast.Constant)
                shape = (ast.ImportFrom, ast.FunctionDef, ast.ClassDef, ast.Assign)
                self.assertTrue(docstring or isinstance(node, shape), (path, node.lineno))
            names = list(top_names(tree))
            self.assertEqual(len(names), len(set(names)), path)

    def test_imports(self):
        for path, tree in self.trees.items():
            for node in ast.walk(tree):
                if isinstance(node, ast.ImportFrom):
                    self.assertIn(node, tree.body)
                    self.assertEqual(node.level, 0, path)
                    self.assertTrue(all(alias.asname is None for alias in node.names), path)
                    self.check_source(path, node)

    def check_source(self, path, node):
        names = {alias.name for alias in node.names}
        if node.module in LIBRARY:
            self.assertLessEqual(names, LIBRARY[node.module], path)
            return
        self.assertTrue(node.module.startswith("trialground."), path)
        source = self.trees[PACKAGE / (node.module.split(".")[1] + ".py")]
        own = [each.name for each in source.body if isinstance(each, (ast.FunctionDef, ast.ClassDef))]
        own += [target.id for each in source.body if isinstance(each, ast.Assign) for target in each.targets]
        self.assertLessEqual(names, set(own), path)

    def test_nothing_that_is_not_of_the_language(self):
        for path, tree in self.trees.items():
            for node in ast.walk(tree):
                self.assertNotIsInstance(node, STATEMENTS, path)
                if isinstance(node, (ast.FunctionDef, ast.ClassDef)):
                    self.assertEqual(node.decorator_list, [], path)
                if isinstance(node, ast.Constant):
                    self.assertNotIsInstance(node.value, (float, complex), path)
                    if isinstance(node.value, str):
                        self.assertNotIn(chr(37), node.value, path)
                if isinstance(node, ast.Call):
                    self.check_call(path, node, METHODS | own_methods(tree))

    def check_call(self, path, node, methods):
        for part in node.args + [keyword.value for keyword in node.keywords if keyword.arg is None]:
            if isinstance(part, ast.Starred):
                self.assertIsInstance(part.value, (ast.Name, ast.Attribute, ast.List, ast.Tuple), (path, node.lineno))
        if isinstance(node.func, ast.Attribute):
            self.assertIn(node.func.attr, methods, (path, node.lineno))

    def test_products_stand_in_no_generator_expression(self):
        for path, tree in self.trees.items():
            for node in ast.walk(tree):
                if isinstance(node, ast.GeneratorExp):
                    called = {each.func.id for each in ast.walk(node)
                              if isinstance(each, ast.Call) and isinstance(each.func, ast.Name)}
                    self.assertFalse(called & LIBRARY["itertools"], (path, node.lineno))

    def test_what_is_iterated_at_once(self):
        for path, tree in self.trees.items():
            parents = parents_of(tree)
            for node in ast.walk(tree):
                named = isinstance(node, ast.Call) and isinstance(node.func, ast.Name) and node.func.id in ITERATED
                viewed = isinstance(node, ast.Call) and isinstance(node.func, ast.Attribute) and node.func.attr in VIEWS
                if named or viewed:
                    self.assertTrue(self.is_iterated(node, parents[node]), (path, node.lineno))

    def is_iterated(self, node, parent):
        if isinstance(parent, (ast.For, ast.comprehension)):
            return parent.iter is node
        if isinstance(parent, ast.Call) and isinstance(parent.func, ast.Name):
            return parent.func.id in ITERATING and parent.args[0] is node
        # A range may be kept, or asked what is in it.
        kept = isinstance(parent, (ast.Assign, ast.Compare))
        return kept and isinstance(node.func, ast.Name) and node.func.id == "range"

    def test_imports_lead_in_no_circle(self):
        ahead = {path.stem: {node.module.split(".")[1] for node in tree.body
                             if isinstance(node, ast.ImportFrom) and node.module.startswith("trialground.")}
                 for path, tree in self.trees.items()}
        while ahead:
            free = [name for name, needed in ahead.items() if not needed & set(ahead)]
            self.assertTrue(free, ahead)
            for name in free:
                del ahead[name]

    def test_names(self):
        for path, tree in self.trees.items():
            named = {node.id for node in ast.walk(tree) if isinstance(node, ast.Name)}
            for name in named & set(dir(builtins)):
                self.assertIn(name, BUILTINS, path)
            for name in bound_names(tree):
                self.assertNotIn(name, set(dir(builtins)) | UNUSED, path)
                self.assertTrue(not name.startswith("__") or name == "__init__", path)

    def test_no_local_name_hides_an_import_or_a_class(self):
        for path, tree in self.trees.items():
            kept = {alias.name for node in tree.body if isinstance(node, ast.ImportFrom) for alias in node.names}
            kept |= {node.name for node in tree.body if isinstance(node, ast.ClassDef)}
            for function in [node for node in ast.walk(tree) if isinstance(node, ast.FunctionDef)]:
                self.assertFalse(kept & set(bound_names(function)), (path, function.name))

    def test_everything_imported_is_used(self):
        for path, tree in self.trees.items():
            used = {node.id for node in ast.walk(tree) if isinstance(node, ast.Name)}
            for node in tree.body:
                if isinstance(node, ast.ImportFrom):
                    self.assertLessEqual({alias.name for alias in node.names}, used, path)


if __name__ == "__main__":
    unittest.main()
