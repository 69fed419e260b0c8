"""The rules of the language that a test can see: files, imports, sizes and words."""

import ast
import builtins
import io
import pathlib
import re
import tokenize
import unittest

FOLDER = pathlib.Path(__file__).resolve().parent.parent / "reaimed"
FILES = sorted(path for path in FOLDER.rglob("*") if "__pycache__" not in path.parts)
LIBRARY = {
    "heapq": {"heappush", "heappop", "heapify", "heapreplace", "heappushpop"},
    "math": {"gcd", "lcm", "isqrt", "comb", "perm", "factorial"},
    "itertools": {"product", "combinations", "permutations", "chain", "accumulate", "pairwise", "islice",
                  "zip_longest"},
    "collections": {"defaultdict"},
}
BUILTINS = set(
    "len range enumerate zip min max sum abs sorted reversed int str bool list tuple dict set frozenset isinstance ord"
    " repr any all divmod pow map iter next getattr hasattr setattr super property staticmethod classmethod Exception"
    " ValueError TypeError KeyError IndexError LookupError ZeroDivisionError ArithmeticError OverflowError"
    " RuntimeError NotImplementedError AttributeError StopIteration NotImplemented".split())
METHODS = set(
    "append clear copy count endswith extend find get index insert isalnum isalpha isdigit islower isspace isupper items"
    " join keys ljust lower lstrip partition pop remove replace reverse rfind rjust rpartition rsplit rstrip setdefault"
    " split splitlines startswith strip update upper values zfill bit_length isascii add discard sort".split())
FREE_ATTRIBUTES = {"count", "index", "title", "find", "get", "join", "lower", "upper", "split", "strip", "copy", "add"}
BARRED_NAMES = set(
    "attrgetter breakpoint builtins compile copyright credits delattr dir eval exec exit gc globals help id importlib"
    " license locals methodcaller os quit type vars sys register mro elements open input law version_info"
    " with_traceback add_note".split())
BARRED_WORDS = re.compile(
    r"\b(type|typing|typing_extensions|enum|Enum|IntEnum|StrEnum|Flag|IntFlag|Generic|Protocol|ABC|ABCMeta|namedtuple"
    r"|NamedTuple|TypedDict|TYPE_CHECKING|abstractmethod)\b|dataclass|overload|contextmanager")


def is_docstring(before):
    """Tells whether a string behind this token is a statement of its own."""
    return before is None or before.type in (tokenize.INDENT, tokenize.NEWLINE, tokenize.DEDENT)


def pieces(text):
    """The tokens of a file without comments and docstrings."""
    before = None
    for token in tokenize.generate_tokens(io.StringIO(text).readline):
        if token.type in (tokenize.COMMENT, tokenize.NL):
            continue
        if not (token.type == tokenize.STRING and is_docstring(before)):
            yield token
        before = token


def bound_names(tree):
    """The names that a file binds, but for methods and attributes."""
    methods = {id(part) for node in ast.walk(tree) if isinstance(node, ast.ClassDef) for part in node.body}
    for node in ast.walk(tree):
        if isinstance(node, ast.Name) and not isinstance(node.ctx, ast.Load):
            yield node.id
        elif isinstance(node, (ast.FunctionDef, ast.ClassDef)) and id(node) not in methods:
            yield node.name
        elif isinstance(node, ast.arg):
            yield node.arg
        elif isinstance(node, (ast.MatchAs, ast.MatchStar, ast.ExceptHandler)) and node.name is not None:
            yield node.name


def imports_of(tree):
    """The pairs (module, name) of the imports of a file."""
    for node in ast.walk(tree):
        if isinstance(node, ast.ImportFrom):
            for part in node.names:
                yield node.module, part.name


class TestRules(unittest.TestCase):
    def setUp(self):
        self.texts = {path: path.read_bytes().decode("ascii") for path in FILES if path.is_file()}
        self.trees = {path: ast.parse(text) for path, text in self.texts.items()}

    def test_files(self):
        self.assertIn(FOLDER / "__init__.py", FILES)
        self.assertLessEqual(len(FILES), 100)
        for path in FILES:
            if path.is_dir():
                self.assertIn(path / "__init__.py", FILES)
            else:
                self.assertRegex(path.name, r"^[a-z0-9_]+\.py$")
                self.assertFalse(path.with_suffix("").is_dir())

    def test_characters_and_sizes(self):
        for path, text in self.texts.items():
            rows = text.split("\n")
            self.assertLessEqual(len(rows), 399, path)
            for at, row in enumerate(rows, 1):
                self.assertLessEqual(len(row), 120, (path, at))
                self.assertRegex(row, "^[ -~]*$", (path, at))

    def test_functions_are_small(self):
        for path, tree in self.trees.items():
            for node in ast.walk(tree):
                if isinstance(node, ast.FunctionDef):
                    self.assertLessEqual(node.end_lineno - node.lineno + 1, 40, (path, node.name))

    def test_statements_at_module_level(self):
        allowed = (ast.ImportFrom, ast.FunctionDef, ast.ClassDef, ast.Assign)
        for path, tree in self.trees.items():
            begun = False
            for at, node in enumerate(tree.body):
                if at == 0 and isinstance(node, ast.Expr) and isinstance(node.value, ast.Constant):
                    continue
                self.assertIsInstance(node, allowed, (path, node.lineno))
                self.assertFalse(begun and isinstance(node, ast.ImportFrom), (path, node.lineno))
                begun = not isinstance(node, ast.ImportFrom)

    def test_imports_name_the_file_that_defines(self):
        for path, tree in self.trees.items():
            for node in ast.walk(tree):
                self.assertNotIsInstance(node, ast.Import, path)
            for module, name in imports_of(tree):
                if module in LIBRARY:
                    self.assertIn(name, LIBRARY[module], path)
                    continue
                source = FOLDER.parent.joinpath(*module.split(".")).with_suffix(".py")
                self.assertIn(source, self.trees, (path, module))
                self.assertIn(name, set(bound_names(self.trees[source])), (path, module))

    def test_no_files_import_each_other(self):
        needs = {}
        for path, tree in self.trees.items():
            names = {module.split(".")[-1] for module, _ in imports_of(tree) if module not in LIBRARY}
            needs[path.stem] = names
        while needs:
            free = [name for name, others in needs.items() if not others & set(needs)]
            self.assertTrue(free, needs)
            for name in free:
                del needs[name]

    def test_names(self):
        for path, tree in self.trees.items():
            for name in bound_names(tree):
                self.assertFalse(hasattr(builtins, name), (path, name))
                self.assertNotIn(name, BARRED_NAMES, path)
                self.assertFalse(name.startswith("__"), (path, name))

    def test_no_local_name_is_that_of_an_import_or_a_class(self):
        for path, tree in self.trees.items():
            taken = {name for _, name in imports_of(tree)}
            taken |= {node.name for node in tree.body if isinstance(node, ast.ClassDef)}
            for function in ast.walk(tree):
                if isinstance(function, ast.FunctionDef):
                    for part in function.body + [function.args]:
                        self.assertEqual(taken & set(bound_names(part)), set(), (path, function.name))

    def test_captured_names_stand_in_their_case_alone(self):
        for path, tree in self.trees.items():
            for function in ast.walk(tree):
                if isinstance(function, ast.FunctionDef):
                    cases = [node for node in ast.walk(function) if isinstance(node, ast.match_case)]
                    inside = {id(node) for case in cases for node in ast.walk(case)}
                    for case in cases:
                        captured = set(bound_names(case.pattern))
                        for part in case.body:
                            self.assertEqual(captured & set(bound_names(part)), set(), (path, function.name))
                            read = {node.id for node in ast.walk(part) if isinstance(node, ast.Name)}
                            other = {name for one in cases for name in bound_names(one.pattern)} - captured
                            self.assertEqual(read & other, set(), (path, function.name))
                        for node in ast.walk(function):
                            if id(node) not in inside and isinstance(node, (ast.Name, ast.arg)):
                                name = node.id if isinstance(node, ast.Name) else node.arg
                                self.assertNotIn(name, captured, (path, function.name))

    def test_methods_that_are_called(self):
        for path, tree in self.trees.items():
            for node in ast.walk(tree):
                if isinstance(node, ast.Call) and isinstance(node.func, ast.Attribute):
                    name = node.func.attr
                    self.assertTrue(name in METHODS or name in self.own_methods() or name == "__init__", (path, name))

    def own_methods(self):
        """The names of the methods that the classes of the package define."""
        classes = [node for tree in self.trees.values() for node in ast.walk(tree) if isinstance(node, ast.ClassDef)]
        return {part.name for node in classes for part in node.body if isinstance(part, ast.FunctionDef)}

    def test_no_name_is_a_method_and_an_attribute(self):
        for path, tree in self.trees.items():
            for node in ast.walk(tree):
                if isinstance(node, ast.ClassDef):
                    methods = {part.name for part in node.body if isinstance(part, ast.FunctionDef)}
                    stored = {part.attr for part in ast.walk(node)
                              if isinstance(part, ast.Attribute) and isinstance(part.ctx, ast.Store)}
                    self.assertEqual(methods & stored, set(), (path, node.name))
                    for name in (methods - METHODS - {"__init__"}) | (stored - FREE_ATTRIBUTES):
                        for value in (0, "", b"", [], {}, set()):
                            self.assertFalse(hasattr(value, name), (path, name))

    def test_builtins(self):
        for path, tree in self.trees.items():
            known = set(bound_names(tree)) | {name for _, name in imports_of(tree)}
            for node in ast.walk(tree):
                if isinstance(node, ast.Name) and node.id not in known:
                    self.assertIn(node.id, BUILTINS, (path, node.lineno))

    def test_barred_words_and_strings(self):
        for path, text in self.texts.items():
            for token in pieces(text):
                self.assertIsNone(BARRED_WORDS.search(token.string), (path, token.start))
        for path, tree in self.trees.items():
            for node in ast.walk(tree):
                if isinstance(node, ast.Constant):
                    self.assertNotIsInstance(node.value, (float, complex), (path, node.lineno))
                    if isinstance(node.value, str):
                        self.assertNotIn("%", node.value, (path, node.lineno))

    def test_statements_and_signs_that_are_not_used(self):
        barred = (ast.Global, ast.AsyncFunctionDef, ast.Await, ast.Div, ast.MatMult)
        for path, tree in self.trees.items():
            for node in ast.walk(tree):
                self.assertNotIsInstance(node, barred, path)


if __name__ == "__main__":
    unittest.main()
