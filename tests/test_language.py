"""The form of the code: what of the rules of the language can be seen from the text of the package's files."""

import ast
import builtins
import os
import re
import unittest
import warnings

PACKAGE = os.path.join(os.path.dirname(os.path.dirname(os.path.abspath(__file__))), "onenumber")
BUILTINS = set("""len range enumerate zip min max sum abs sorted reversed int str bool bytes list tuple dict set
frozenset isinstance ord repr any all divmod map iter next Exception ValueError TypeError KeyError IndexError
LookupError ZeroDivisionError ArithmeticError OverflowError RuntimeError NotImplementedError AttributeError
StopIteration NotImplemented""".split())
METHODS = set("""append clear copy count endswith extend find get index insert isalnum isalpha isdigit islower isspace
isupper items join keys ljust lower lstrip partition pop remove replace reverse rfind rjust rpartition rsplit rstrip
setdefault split splitlines startswith strip update upper values zfill bit_length removeprefix removesuffix sort add
discard""".split())
LIBRARY = {"heapq": {"heappush", "heappop", "heapify", "heapreplace", "heappushpop"},
           "math": {"gcd", "lcm", "isqrt", "comb", "perm", "factorial"},
           "itertools": {"product", "combinations", "permutations"}}
NOWHERE = set("register mro elements open input law version_info with_traceback add_note".split())
NO_NAMES = set("""attrgetter breakpoint builtins compile copyright credits delattr dir eval exec exit gc getattr globals
hasattr help id importlib license locals methodcaller os quit setattr super type vars sys""".split())
WORDS = re.compile(r"\b(type|typing|typing_extensions|enum|Enum|IntEnum|StrEnum|Flag|IntFlag|Generic|Protocol|ABC|ABCMeta"
                   r"|namedtuple|NamedTuple|TypedDict|TYPE_CHECKING|abstractmethod)\b|dataclass|overload|contextmanager")
STATEMENTS = (ast.Assign, ast.AugAssign, ast.If, ast.While, ast.For, ast.Return, ast.Break, ast.Continue, ast.Pass,
              ast.Raise, ast.Assert, ast.Delete, ast.Try, ast.Expr, ast.FunctionDef, ast.ClassDef, ast.ImportFrom)


def files():
    found = []
    for name in sorted(os.listdir(PACKAGE)):
        if name != "__pycache__":
            found.append(name)
    return found


def read(name):
    with open(os.path.join(PACKAGE, name), encoding="utf-8") as stream:
        return stream.read()


def trees():
    return [(name, ast.parse(read(name))) for name in files()]


def bound_names(tree):
    """All names that a file gives to something: variables, parameters, functions, classes, imports."""
    found = []
    for node in ast.walk(tree):
        if isinstance(node, ast.Name) and not isinstance(node.ctx, ast.Load):
            found.append(node.id)
        elif isinstance(node, ast.arg):
            found.append(node.arg)
        elif isinstance(node, (ast.FunctionDef, ast.ClassDef)):
            found.append(node.name)
        elif isinstance(node, ast.alias):
            found.append(node.name)
    return found


def docstrings(tree):
    found = []
    for node in ast.walk(tree):
        if isinstance(node, (ast.Module, ast.FunctionDef, ast.ClassDef)) and ast.get_docstring(node) is not None:
            found.append(node.body[0].value)
    return found


class Language(unittest.TestCase):
    def test_files_and_sizes(self):
        self.assertLessEqual(len(files()), 100)
        self.assertIn("__init__.py", files())
        for name in files():
            self.assertRegex(name, r"^[a-z_0-9]+\.py$")
            self.assertFalse(name[:-3] in dir(builtins), name)
            text = read(name)
            lines = text.split("\n")
            self.assertLessEqual(len(lines) - 1, 399, name)
            for line in lines:
                self.assertLessEqual(len(line), 120, (name, line))
                self.assertTrue(all([" " <= sign <= "~" for sign in line]), (name, line))
                self.assertEqual(line, line.rstrip(), name)
            for _, tree in [(name, ast.parse(text))]:
                for node in ast.walk(tree):
                    if isinstance(node, ast.FunctionDef):
                        self.assertLessEqual(node.end_lineno - node.lineno + 1, 40, (name, node.name))

    def test_no_warnings(self):
        with warnings.catch_warnings():
            warnings.simplefilter("error")
            for name in files():
                compile(read(name), name, "exec")

    def test_imports(self):
        defined = {name[:-3]: {node.name if not isinstance(node, ast.Assign) else node.targets[0].id for node in tree.body
                               if isinstance(node, (ast.FunctionDef, ast.ClassDef, ast.Assign))}
                   for name, tree in trees()}
        rank = {}
        for name, tree in trees():
            body = tree.body[1:] if ast.get_docstring(tree) is not None else tree.body
            kinds = [isinstance(node, ast.ImportFrom) for node in body]
            self.assertEqual(kinds, sorted(kinds, reverse=True), name)
            rank[name[:-3]] = []
            for node in ast.walk(tree):
                self.assertNotIsInstance(node, ast.Import, name)
                if isinstance(node, ast.ImportFrom):
                    self.assertEqual(node.level, 0)
                    package, _, file = node.module.partition(".")
                    names = {entry.name for entry in node.names}
                    self.assertTrue(all([entry.asname is None for entry in node.names]))
                    if package == "onenumber":
                        self.assertLessEqual(names, defined[file], (name, file))
                        rank[name[:-3]].append(file)
                    else:
                        self.assertLessEqual(names, LIBRARY[node.module], name)
        done = set()
        while len(done) < len(rank):
            new = {file for file in rank if file not in done and set(rank[file]) <= done}
            self.assertTrue(new, "files import each other")
            done |= new

    def test_statements(self):
        for name, tree in trees():
            for node in ast.walk(tree):
                if isinstance(node, ast.stmt):
                    self.assertIsInstance(node, STATEMENTS, (name, node.lineno))
                if isinstance(node, (ast.FunctionDef, ast.ClassDef)):
                    for entry in node.decorator_list:
                        self.assertRegex(ast.unparse(entry), r"^(property|staticmethod|classmethod|\w+\.setter)$")
                    self.assertRegex(node.name, r"^(_?[A-Za-z][A-Za-z0-9_]*|__init__)$")
                if isinstance(node, (ast.Lambda, ast.FunctionDef)):
                    for entry in node.args.defaults + [entry for entry in node.args.kw_defaults if entry is not None]:
                        self.assertNotIsInstance(entry, (ast.List, ast.Dict, ast.Set, ast.Call), name)
            for node in tree.body:
                self.assertIsInstance(node, (ast.Expr, ast.ImportFrom, ast.FunctionDef, ast.ClassDef, ast.Assign), name)
                if isinstance(node, ast.Expr):
                    self.assertIsInstance(node.value, ast.Constant)

    def test_values(self):
        for name, tree in trees():
            told = docstrings(tree)
            for node in ast.walk(tree):
                self.assertNotIsInstance(node, (ast.Div, ast.MatMult, ast.Await), name)
                if isinstance(node, ast.BinOp) and isinstance(node.op, ast.Pow):
                    self.assertIsInstance(node.right, ast.Constant, name)
                    self.assertLessEqual(node.right.value, 64)
                if isinstance(node, ast.Constant):
                    self.assertNotIsInstance(node.value, (float, complex, bytes), name)
                    if isinstance(node.value, str):
                        self.assertNotIn("%", node.value, name)
                        if node not in told:
                            self.assertIsNone(WORDS.search(node.value), name)
                if isinstance(node, ast.Compare):
                    for sign, right in zip(node.ops, node.comparators):
                        if isinstance(sign, (ast.Is, ast.IsNot)):
                            self.assertIn(ast.unparse(right), ("None", "True", "False"), name)

    def test_names(self):
        for name, tree in trees():
            for bound in bound_names(tree):
                # Running examples makes _ a builtin.
                self.assertNotIn(bound, (NOWHERE | NO_NAMES | set(dir(builtins))) - {"_"}, name)
                self.assertRegex(bound, r"^(_|_?[A-Za-z][A-Za-z0-9_]*|__init__)$")
                self.assertFalse(bound.startswith(("_wall", "_pe_", "_dcw_", "_cm_", "_twin_re_", "_law_")), name)
            for node in ast.walk(tree):
                if isinstance(node, ast.Name) and isinstance(node.ctx, ast.Load):
                    self.assertNotEqual(node.id, "_", name)
                    if node.id in dir(builtins):
                        self.assertIn(node.id, BUILTINS, name)
                if isinstance(node, ast.Attribute):
                    self.assertNotIn(node.attr, NOWHERE, name)
                code = ast.unparse(node) if isinstance(node, ast.Name) else ""
                self.assertIsNone(WORDS.search(code), name)

    def test_each_name_is_bound_once(self):
        for name, tree in trees():
            imported = [entry.name for node in tree.body if isinstance(node, ast.ImportFrom) for entry in node.names]
            top = imported + [node.targets[0].id if isinstance(node, ast.Assign) else node.name for node in tree.body
                              if isinstance(node, (ast.Assign, ast.FunctionDef, ast.ClassDef))]
            self.assertEqual(len(top), len(set(top)), name)
            classes = {node.name for node in tree.body if isinstance(node, ast.ClassDef)}
            for node in ast.walk(tree):
                if isinstance(node, ast.Name) and isinstance(node.ctx, ast.Store) or isinstance(node, ast.arg):
                    bound = node.id if isinstance(node, ast.Name) else node.arg
                    self.assertNotIn(bound, classes | set(imported), name)
            used = {node.id for node in ast.walk(tree) if isinstance(node, ast.Name)}
            self.assertEqual(set(imported) - used, set(), name)

    def test_methods(self):
        for name, tree in trees():
            own = {node.name for _, other in trees() for node in ast.walk(other) if isinstance(node, ast.FunctionDef)}
            for node in ast.walk(tree):
                if isinstance(node, ast.Call) and isinstance(node.func, ast.Attribute):
                    self.assertIn(node.func.attr, METHODS | own, name)
                    if node.func.attr in METHODS:
                        self.assertEqual(node.keywords, [], name)


if __name__ == "__main__":
    unittest.main()
