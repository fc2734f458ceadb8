"""The rules of the language that a look at the code can tell (LANGUAGE.md, L1 to L28).

Where a rule allows a thing under conditions that are hard to see, the thing is refused here altogether.
"""

import ast
import builtins
import re
import unittest
from pathlib import Path

PACKAGE = Path(__file__).resolve().parent.parent / "flatrooms"
FILES = sorted(PACKAGE.rglob("*.py"))
LIBRARY = {"heapq": {"heappush", "heappop", "heapify", "heapreplace", "heappushpop"},
           "math": {"gcd", "lcm", "isqrt", "comb", "perm", "factorial"},
           "itertools": {"product", "combinations", "permutations", "chain", "accumulate", "pairwise", "islice",
                         "zip_longest"},
           "collections": {"defaultdict"}}
BUILTINS = {"len", "range", "enumerate", "zip", "min", "max", "sum", "abs", "sorted", "reversed", "int", "str",
            "bool", "list", "tuple", "dict", "set", "isinstance", "ord", "repr", "any", "all", "divmod", "map",
            "KeyError", "ValueError", "TypeError", "IndexError"}
METHODS = set("""append clear copy count endswith extend find get index insert isalnum isalpha isdigit islower
    isspace isupper items join keys ljust lower lstrip partition pop remove replace reverse rfind rjust rpartition
    rsplit rstrip setdefault split splitlines startswith strip update upper values zfill bit_length add discard
    """.split())
BARRED = {"register", "mro", "elements", "open", "input", "law", "attrgetter", "breakpoint", "compile", "delattr",
          "dir", "eval", "exec", "exit", "gc", "globals", "help", "id", "locals", "os", "quit", "sys", "vars",
          "type", "typing", "enum", "dataclass", "overload", "namedtuple", "next", "iter", "getattr", "setattr"}
STATEMENTS = (ast.Assign, ast.AugAssign, ast.If, ast.While, ast.For, ast.Return, ast.Break, ast.Continue, ast.Pass,
              ast.Raise, ast.Assert, ast.Delete, ast.Expr, ast.FunctionDef, ast.ClassDef, ast.ImportFrom, ast.Try)
SUMMING = {"any", "all", "min", "max", "sum", "sorted"}
SPECIAL = {"__init__", "__eq__", "__repr__", "__str__", "__len__"}


def tree_of(path):
    return ast.parse(path.read_text(encoding="utf-8"))


def called(node):
    """The bare name that a call calls, None for all else."""
    return node.func.id if isinstance(node, ast.Call) and isinstance(node.func, ast.Name) else None


def stars_of(tree):
    """The stars, single and double, anywhere within; * between two numbers is none."""
    return [node for node in ast.walk(tree)
            if isinstance(node, ast.Starred)
            or isinstance(node, ast.Dict) and None in node.keys
            or isinstance(node, ast.keyword) and node.arg is None]


def bound_names(tree):
    """The names that functions bind: parameters and local variables."""
    found = set()
    for function in [node for node in ast.walk(tree) if isinstance(node, (ast.FunctionDef, ast.Lambda))]:
        found |= {node.arg for node in ast.walk(function) if isinstance(node, ast.arg)}
        found |= {node.id for node in ast.walk(function)
                  if isinstance(node, ast.Name) and isinstance(node.ctx, ast.Store)}
    return found


def imports_of(tree):
    return [(node.module, alias.name) for node in tree.body if isinstance(node, ast.ImportFrom)
            for alias in node.names]


def each_file(judge):
    """A test that judges each file of the package."""
    def run(self):
        for path in FILES:
            with self.subTest(file=path.name):
                judge(self, path, tree_of(path))
    return run


class Language(unittest.TestCase):
    def test_files(self):
        names = [path for path in PACKAGE.rglob("*") if "__pycache__" not in path.parts]
        self.assertEqual(sorted(names), FILES)
        self.assertLessEqual(len(FILES), 100)
        for path in FILES:
            self.assertRegex(path.name, r"^[a-z0-9_]+\.py$")

    @each_file
    def test_characters_and_sizes(self, path, tree):
        text = path.read_text(encoding="utf-8")
        self.assertRegex(text, r"\A[ -~\n]*\Z")
        lines = text.splitlines()
        self.assertLessEqual(len(lines), 399)
        self.assertLessEqual(max(map(len, lines)), 120)
        for node in ast.walk(tree):
            if isinstance(node, ast.FunctionDef):
                self.assertLessEqual(node.end_lineno - node.lineno + 1, 40, node.name)

    @each_file
    def test_imports(self, path, tree):
        for node in ast.walk(tree):
            self.assertNotIsInstance(node, ast.Import)
        for module, name in imports_of(tree):
            if module in LIBRARY:
                self.assertIn(name, LIBRARY[module])
                continue
            self.assertRegex(module, r"^flatrooms\.[a-z]+$")
            home = tree_of(PACKAGE / (module.split(".")[1] + ".py"))
            defined = {node.name for node in home.body if isinstance(node, (ast.FunctionDef, ast.ClassDef))}
            defined |= {node.targets[0].id for node in home.body if isinstance(node, ast.Assign)}
            self.assertIn(name, defined)

    def test_imports_go_round_nowhere(self):
        goes = {f"flatrooms.{path.stem}": {module for module, _ in imports_of(tree_of(path))} for path in FILES}
        seen = set()
        while len(seen) < len(goes):
            ready = [name for name in goes if name not in seen and not (goes[name] & set(goes)) - seen]
            self.assertTrue(ready, "files import from each other")
            seen |= set(ready)

    @each_file
    def test_module_level(self, path, tree):
        names = [name for _, name in imports_of(tree)]
        for node in tree.body:
            self.assertIsInstance(node, (ast.Expr, ast.ImportFrom, ast.FunctionDef, ast.ClassDef, ast.Assign))
            if isinstance(node, ast.Expr):
                self.assertIsInstance(node.value, ast.Constant)
            elif isinstance(node, ast.Assign):
                names.append(node.targets[0].id)
                ast.literal_eval(node.value)
            elif isinstance(node, (ast.FunctionDef, ast.ClassDef)):
                names.append(node.name)
        self.assertEqual(len(names), len(set(names)))

    @each_file
    def test_statements_and_expressions(self, path, tree):
        refused = (ast.GeneratorExp, ast.Yield, ast.YieldFrom, ast.Global, ast.Await, ast.Lambda, ast.NamedExpr,
                   ast.AnnAssign, ast.With, ast.Match, ast.Div, ast.MatMult, ast.Pow, ast.Nonlocal)
        for node in ast.walk(tree):
            self.assertNotIsInstance(node, refused)
            if isinstance(node, ast.stmt):
                self.assertIsInstance(node, STATEMENTS)
            if isinstance(node, ast.Constant):
                self.assertNotIsInstance(node.value, (float, complex))
                if isinstance(node.value, str):
                    self.assertNotIn("%", node.value)
            if isinstance(node, ast.Compare):
                for sign, right in zip(node.ops, node.comparators):
                    if isinstance(sign, (ast.Is, ast.IsNot)):
                        self.assertIn(ast.unparse(right), ("None", "True", "False"))
            if isinstance(node, (ast.FunctionDef, ast.ClassDef)):
                self.assertEqual(node.decorator_list, [])

    @each_file
    def test_names(self, path, tree):
        barred = set(dir(builtins)) | BARRED
        own = {name for _, name in imports_of(tree)}
        own |= {node.name for node in tree.body if isinstance(node, ast.ClassDef)}
        found = bound_names(tree)
        self.assertEqual(found & barred, set())
        self.assertEqual(found & own, set())
        for node in ast.walk(tree):
            if isinstance(node, (ast.FunctionDef, ast.ClassDef)) and node.name.startswith("__"):
                self.assertIn(node.name, SPECIAL)
            elif isinstance(node, (ast.FunctionDef, ast.ClassDef)):
                self.assertNotIn(node.name, barred)
            if isinstance(node, ast.Name) and node.id == "_":
                self.assertIsInstance(node.ctx, ast.Store)
            if isinstance(node, ast.Name) and node.id in dir(builtins):
                self.assertIn(node.id, BUILTINS)

    @each_file
    def test_words(self, path, tree):
        text = re.sub(r'""".*?"""|#.*', "", path.read_text(encoding="utf-8"), flags=re.S)
        self.assertNotRegex(text, r"\b(type|typing|enum|Enum|Flag|Generic|Protocol|ABC|namedtuple)\b|dataclass")

    @each_file
    def test_methods(self, path, tree):
        own = {node.name for file in FILES for node in ast.walk(tree_of(file)) if isinstance(node, ast.FunctionDef)}
        for node in ast.walk(tree):
            if isinstance(node, ast.Call) and isinstance(node.func, ast.Attribute):
                self.assertIn(node.func.attr, METHODS | own)

    @each_file
    def test_sets_stand_where_they_may(self, path, tree):
        fine = set()
        for node in ast.walk(tree):
            if called(node) in ("sorted", "len"):
                fine |= {id(part) for part in node.args}
            if isinstance(node, ast.Compare):
                fine |= {id(part) for part in [node.left, *node.comparators]}
        for node in ast.walk(tree):
            if isinstance(node, (ast.Set, ast.SetComp)) or called(node) in ("set", "frozenset"):
                self.assertIn(id(node), fine, ast.unparse(node))

    @each_file
    def test_views_are_iterated_at_once(self, path, tree):
        fine = set()
        for node in ast.walk(tree):
            if isinstance(node, (ast.For, ast.comprehension)):
                fine.add(id(node.iter))
            if called(node) in ("list", "tuple", "dict", "enumerate", "combinations", "permutations", *SUMMING):
                fine |= {id(part) for part in node.args[:1]}
        for node in ast.walk(tree):
            name = node.func.attr if isinstance(node, ast.Call) and isinstance(node.func, ast.Attribute) else None
            if called(node) in ("zip", "enumerate", "reversed", "range", "map", "combinations", "permutations") \
                    or name in ("items", "keys", "values"):
                self.assertIn(id(node), fine, ast.unparse(node))

    @each_file
    def test_no_star_in_an_index(self, path, tree):
        for node in ast.walk(tree):
            if isinstance(node, ast.Subscript):
                self.assertEqual(stars_of(node.slice), [], f"row {node.lineno}")

    def test_stars_in_an_index_are_found(self):
        for text in ("d[(1, *xs)]", "d[*xs]", "d[((a, b), *xs)] = 1", "d[0][[*xs][0]]", "d[{**e}]", "d[f(*xs)]",
                     "d[f(**e)]", "del d[k, (*xs, 1)]", "d[(*xs,) + ys] += 1"):
            found = [node for node in ast.walk(ast.parse(text)) if isinstance(node, ast.Subscript)]
            self.assertTrue(any(stars_of(node.slice) for node in found), text)
        for text in ("[*xs, 1][0]", "f(*xs)[0]", "d[((a, b),) + xs]", "d[a * b]", "(*xs, 1)[1:]", "d[-a:b]"):
            found = [node for node in ast.walk(ast.parse(text)) if isinstance(node, ast.Subscript)]
            self.assertFalse(any(stars_of(node.slice) for node in found), text)

    @each_file
    def test_errors_are_made_where_they_are_raised(self, path, tree):
        for node in ast.walk(tree):
            if isinstance(node, ast.Raise):
                self.assertRegex(called(node.exc) or "", r"^(Bad|No|Nothing|Too)[A-Z][a-z]+")


if __name__ == "__main__":
    unittest.main()
