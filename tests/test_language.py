"""The rules of LANGUAGE.md that can be told from a file's tree, over the files of the package."""

import ast
import builtins
import pathlib
import re
import unittest

PACKAGE = pathlib.Path(__file__).resolve().parent.parent / "stiffbars"
FILES = sorted(PACKAGE.glob("*.py"))

BUILTINS = set(
    "len range enumerate zip min max sum abs sorted reversed int str bool bytes list tuple dict set isinstance "
    "ord repr any all divmod Exception ValueError TypeError KeyError IndexError LookupError RuntimeError".split()
)
METHODS = set(
    "append clear copy count endswith extend find get index insert isalnum isalpha isdigit islower isspace isupper "
    "items join keys ljust lower lstrip partition pop remove replace reverse rfind rjust rpartition rsplit rstrip "
    "setdefault split splitlines startswith strip sort update upper values zfill bit_length add discard".split()
)
LIBRARY = {
    "heapq": {"heappush", "heappop", "heapify"},
    "math": {"gcd", "lcm", "isqrt", "comb", "perm", "factorial"},
    "itertools": {"product", "combinations", "permutations", "chain"},
    "collections": {"defaultdict", "deque"},
}
# Comments and docstrings may have most of these; that the package does without them there is easier to tell.
WORDS = re.compile(
    r"\b(type|typing|enum|namedtuple|dataclass|overload|register|mro|elements|open|input|law|global|eval|exec|dir|"
    r"vars|locals|globals|compile|exit|quit|help|id|super|sys|os|gc|_wall)\b"
)
BARRED = (
    ast.AsyncFunctionDef, ast.AsyncFor, ast.AsyncWith, ast.Await, ast.Import, ast.Div, ast.Global, ast.TryStar,
)


def read(path):
    return path.read_text(encoding="utf-8")


def defined(tree):
    """The names that a file binds at its module level, but for imports."""
    names = []
    for row in tree.body:
        if isinstance(row, (ast.FunctionDef, ast.ClassDef)):
            names.append(row.name)
        elif isinstance(row, ast.Assign):
            names.extend(target.id for target in row.targets)
    return names


def bound(tree):
    """All names that a file binds anywhere."""
    names = set()
    for node in ast.walk(tree):
        if isinstance(node, ast.Name) and not isinstance(node.ctx, ast.Load):
            names.add(node.id)
        elif isinstance(node, ast.arg):
            names.add(node.arg)
        elif isinstance(node, (ast.FunctionDef, ast.ClassDef, ast.alias)):
            names.add(node.name)
    return names


class LanguageTest(unittest.TestCase):
    def each(self):
        self.assertIn("__init__.py", [path.name for path in FILES])
        return [(path.name, ast.parse(read(path))) for path in FILES]

    def test_the_folder_holds_plain_files_alone(self):
        for path in PACKAGE.iterdir():
            if path.name != "__pycache__":
                self.assertRegex(path.name, r"^[a-z0-9_]+\.py$")
                self.assertTrue(path.is_file())

    def test_characters_and_sizes(self):
        for path in FILES:
            text = read(path)
            lines = text.split("\n")
            self.assertIsNone(re.search("[^ -~\n]", text), path.name)
            self.assertLessEqual(len(lines), 400, path.name)
            self.assertLessEqual(max(map(len, lines)), 120, path.name)

    def test_functions_have_at_most_40_lines_and_no_decorators(self):
        for _, tree in self.each():
            for node in ast.walk(tree):
                if isinstance(node, ast.FunctionDef):
                    self.assertLessEqual(node.end_lineno - node.lineno + 1, 40, node.name)
                    self.assertEqual(node.decorator_list, [], node.name)

    def test_module_level(self):
        allowed = (ast.Expr, ast.ImportFrom, ast.FunctionDef, ast.ClassDef, ast.Assign)
        for name, tree in self.each():
            for at, row in enumerate(tree.body):
                self.assertIsInstance(row, allowed)
                if isinstance(row, ast.Expr):
                    self.assertEqual(at, 0, "only a docstring is an expression there")
                    self.assertIsInstance(row.value.value, str)
                if isinstance(row, ast.Assign):
                    ast.literal_eval(row.value)
            names = [alias.name for row in tree.body if isinstance(row, ast.ImportFrom) for alias in row.names]
            names.extend(defined(tree))
            self.assertEqual(len(names), len(set(names)), name)

    def test_imports_name_the_very_file(self):
        for _, tree in self.each():
            for node in ast.walk(tree):
                if not isinstance(node, ast.ImportFrom):
                    continue
                self.assertEqual(node.level, 0)
                names = LIBRARY.get(node.module)
                if names is None:
                    self.assertTrue(node.module.startswith("stiffbars."), node.module)
                    source = PACKAGE / (node.module.removeprefix("stiffbars.") + ".py")
                    names = defined(ast.parse(read(source)))
                for alias in node.names:
                    self.assertIn(alias.name, names)
                    self.assertIsNone(alias.asname)

    def test_no_files_import_from_each_other(self):
        sources = {}
        for path in FILES:
            rows = [row for row in ast.parse(read(path)).body if isinstance(row, ast.ImportFrom)]
            sources["stiffbars." + path.stem] = {row.module for row in rows if row.module not in LIBRARY}
        while sources:
            ends = [name for name in sources if not sources[name] & set(sources)]
            self.assertTrue(ends, sources)
            for name in ends:
                del sources[name]

    def test_names(self):
        for _, tree in self.each():
            names = bound(tree)
            self.assertEqual(names & (BUILTINS | set(dir(builtins))), set())
            for node in ast.walk(tree):
                if isinstance(node, ast.Name) and isinstance(node.ctx, ast.Load):
                    self.assertIn(node.id, names | BUILTINS)
                    self.assertNotEqual(node.id, "_")

    def test_no_name_in_a_function_is_that_of_an_import_or_a_class(self):
        for name, tree in self.each():
            rows = [row for row in tree.body if isinstance(row, ast.ImportFrom)]
            outside = {alias.name for row in rows for alias in row.names}
            outside |= {row.name for row in tree.body if isinstance(row, ast.ClassDef)}
            for node in ast.walk(tree):
                if isinstance(node, (ast.FunctionDef, ast.Lambda)):
                    inside = bound(node) - {getattr(node, "name", None)}
                    self.assertEqual(inside & outside, set(), name)

    def test_classes(self):
        for name, tree in self.each():
            for node in ast.walk(tree):
                if not isinstance(node, ast.ClassDef):
                    continue
                methods = [row.name for row in node.body if isinstance(row, ast.FunctionDef)]
                self.assertEqual(len(methods), len(set(methods)), name)
                self.assertEqual([word for word in methods if word.startswith("__") and word != "__init__"], [])
                stored = {
                    inner.attr for inner in ast.walk(node)
                    if isinstance(inner, ast.Attribute) and isinstance(inner.ctx, ast.Store)
                }
                self.assertEqual(stored & (METHODS | set(methods)), set(), name)

    def test_words_that_are_not_used(self):
        for path in FILES:
            self.assertIsNone(WORDS.search(read(path)), path.name)

    def test_nodes_and_methods(self):
        own = {node.name for _, tree in self.each() for node in ast.walk(tree) if isinstance(node, ast.FunctionDef)}
        for name, tree in self.each():
            for node in ast.walk(tree):
                self.assertNotIsInstance(node, BARRED, name)
                if isinstance(node, ast.Constant):
                    self.assertNotIsInstance(node.value, (float, complex), name)
                    self.assertFalse(isinstance(node.value, str) and "%" in node.value, name)
                if isinstance(node, ast.Call) and isinstance(node.func, ast.Attribute):
                    self.assertIn(node.func.attr, METHODS | own, name)


if __name__ == "__main__":
    unittest.main()
