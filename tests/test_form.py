"""The rules of the language subset that a test can see."""

import ast
import builtins
import pathlib
import re
import unittest

import owntables

FOLDER = pathlib.Path(owntables.__file__).parent
FILES = sorted(FOLDER.glob("*.py"))
LIBRARY = {
    "heapq": {"heappush", "heappop", "heapify", "heapreplace", "heappushpop"},
    "math": {"gcd", "lcm", "isqrt", "comb", "perm", "factorial"},
    "itertools": {"product", "combinations", "permutations"},
}
BUILTINS = set(
    "len range enumerate zip min max sum abs sorted reversed int str bool list tuple dict set isinstance ord repr "
    "any all divmod pow iter next ValueError KeyError ZeroDivisionError NotImplemented staticmethod property".split()
)
METHODS = set(
    "append clear copy count endswith extend find get index insert isalnum isalpha isdigit islower isspace isupper "
    "items join keys ljust lower lstrip partition pop remove replace reverse rfind rjust rpartition rsplit rstrip "
    "setdefault split splitlines startswith strip update upper values zfill bit_length removeprefix removesuffix "
    "isascii add discard sort __init__".split()
)
BARRED_NAMES = set(
    "register mro elements open input law version_info with_traceback add_note attrgetter breakpoint compile "
    "copyright delattr dir eval exec exit gc globals help id importlib license locals methodcaller os quit super "
    "vars map sys".split()
)
BARRED_WORDS = re.compile(r"\b(type|typing|enum|Enum|Flag|Generic|Protocol|ABC|NamedTuple|TypedDict)\b|dataclass")
STATEMENTS = (
    ast.Assign, ast.AugAssign, ast.If, ast.While, ast.For, ast.Return, ast.Break, ast.Continue, ast.Pass, ast.Raise,
    ast.Assert, ast.Delete, ast.Try, ast.Expr, ast.FunctionDef, ast.ClassDef, ast.ImportFrom,
)
DOCUMENTED = (ast.Module, ast.ClassDef, ast.FunctionDef)


def docstrings(tree):
    return {
        id(node.body[0].value) for node in ast.walk(tree)
        if isinstance(node, DOCUMENTED) and ast.get_docstring(node) is not None
    }


def bound_names(tree):
    for node in ast.walk(tree):
        if isinstance(node, ast.Name) and not isinstance(node.ctx, ast.Load):
            yield node.id
        elif isinstance(node, ast.arg):
            yield node.arg
        elif isinstance(node, ast.alias):
            yield node.name


class FormTest(unittest.TestCase):
    def each(self):
        for path in FILES:
            with self.subTest(file=path.name):
                yield path, path.read_text(encoding="utf-8"), ast.parse(path.read_text(encoding="utf-8"))

    def test_folder(self):
        others = [p.name for p in FOLDER.iterdir() if p not in FILES and p.name != "__pycache__"]
        self.assertEqual(others, [])

    def test_sizes_and_characters(self):
        for path, text, tree in self.each():
            lines = text.split("\n")
            self.assertLessEqual(len(lines), 399)
            self.assertLessEqual(max(len(line) for line in lines), 120)
            self.assertTrue(all(c == "\n" or " " <= c <= "~" for c in text))
            for node in ast.walk(tree):
                if isinstance(node, ast.FunctionDef):
                    self.assertLessEqual(node.end_lineno - node.lineno + 1, 40, node.name)

    def test_statements_and_values(self):
        for path, text, tree in self.each():
            for node in ast.walk(tree):
                if isinstance(node, ast.stmt):
                    self.assertIsInstance(node, STATEMENTS)
                self.assertNotIsInstance(node, (ast.Div, ast.Yield, ast.YieldFrom, ast.Await, ast.GeneratorExp))
                if isinstance(node, ast.Constant):
                    self.assertNotIsInstance(node.value, (float, complex, bytes))
                if isinstance(node, ast.Constant) and isinstance(node.value, str):
                    self.assertNotIn("%", node.value)
                if isinstance(node, ast.Pow):
                    self.fail("an exponent")
                if isinstance(node, ast.Compare) and any(isinstance(op, (ast.Is, ast.IsNot)) for op in node.ops):
                    self.assertTrue(all(isinstance(side, ast.Constant) for side in node.comparators))
            for node in tree.body:
                self.assertIsInstance(node, (ast.Expr, ast.ImportFrom, ast.FunctionDef, ast.ClassDef, ast.Assign))

    def test_names(self):
        for path, text, tree in self.each():
            bound = list(bound_names(tree))
            defined = [n.name for n in ast.walk(tree) if isinstance(n, (ast.FunctionDef, ast.ClassDef))]
            for name in bound + [n for n in defined if not n.startswith("__")]:
                self.assertNotIn(name, BARRED_NAMES)
                self.assertFalse(hasattr(builtins, name), name)
                self.assertFalse(name.startswith("__"), name)
            for node in ast.walk(tree):
                if isinstance(node, ast.Name) and hasattr(builtins, node.id):
                    self.assertIn(node.id, BUILTINS)
            top = [n.name for n in tree.body if isinstance(n, (ast.FunctionDef, ast.ClassDef))]
            imported = [a.name for n in tree.body if isinstance(n, ast.ImportFrom) for a in n.names]
            self.assertEqual(len(top + imported), len(set(top + imported)))
            classes = [n.name for n in ast.walk(tree) if isinstance(n, ast.ClassDef)]
            inner = [name for name in bound if name in imported + classes]
            self.assertEqual(sorted(inner), sorted(imported))

    def test_imports_are_used(self):
        for path, text, tree in self.each():
            read = {node.id for node in ast.walk(tree) if isinstance(node, ast.Name)}
            for node in tree.body:
                if isinstance(node, ast.ImportFrom):
                    self.assertLessEqual({alias.name for alias in node.names}, read)

    def test_methods_and_words(self):
        trees = [tree for path, text, tree in self.each()]
        own = {
            item.name for tree in trees for node in ast.walk(tree) if isinstance(node, ast.ClassDef)
            for item in node.body if isinstance(item, ast.FunctionDef)
        }
        for tree in trees:
            documents = docstrings(tree)
            for node in ast.walk(tree):
                if isinstance(node, ast.Call) and isinstance(node.func, ast.Attribute):
                    self.assertIn(node.func.attr, METHODS | own)
                words = [node.id] if isinstance(node, ast.Name) else []
                if isinstance(node, ast.Constant) and isinstance(node.value, str) and id(node) not in documents:
                    words.append(node.value)
                for word in words:
                    self.assertIsNone(BARRED_WORDS.search(word), word)

    def test_imports(self):
        arrows = {}
        names = {path.stem: path for path in FILES}
        for path, text, tree in self.each():
            for node in ast.walk(tree):
                self.assertNotIsInstance(node, ast.Import)
                if isinstance(node, ast.ImportFrom):
                    self.assertEqual(node.level, 0)
                    told = {alias.name for alias in node.names}
                    self.assertTrue(all(alias.asname is None for alias in node.names))
                    if node.module in LIBRARY:
                        self.assertLessEqual(told, LIBRARY[node.module])
                        continue
                    package, stem = node.module.split(".")
                    self.assertEqual(package, "owntables")
                    source = ast.parse(names[stem].read_text(encoding="utf-8"))
                    made = {n.name for n in source.body if isinstance(n, (ast.FunctionDef, ast.ClassDef))}
                    made |= {n.targets[0].id for n in source.body if isinstance(n, ast.Assign)}
                    self.assertLessEqual(told, made)
                    arrows.setdefault(path.stem, set()).add(stem)
        while arrows:
            ends = [stem for stem in arrows if not arrows[stem] & set(arrows)]
            self.assertTrue(ends, "files import from each other")
            for stem in ends:
                del arrows[stem]


if __name__ == "__main__":
    unittest.main()
