"""The rules of the language subset that can be read off the files of the package."""

import ast
import builtins
import pathlib
import re
import unittest

FOLDER = pathlib.Path(__file__).resolve().parent.parent / "undocover"
FILES = sorted(FOLDER.glob("*.py"))
BUILTINS = set("""len range enumerate zip min max sum abs sorted reversed int str bool bytes list tuple dict set
isinstance ord repr any all divmod ValueError TypeError KeyError IndexError LookupError ZeroDivisionError
ArithmeticError OverflowError RuntimeError NotImplementedError""".split())
METHODS = set("""append clear copy count endswith extend find get index insert isalnum isalpha isdigit islower isspace
isupper items join keys ljust lower lstrip partition pop remove replace reverse rfind rjust rpartition rsplit rstrip
setdefault split splitlines startswith strip update upper values zfill bit_length add discard sort""".split())
BARRED_NAMES = set("register mro elements open input version_info with_traceback add_note".split())
BARRED_WORDS = re.compile(r"\b(type|typing|typing_extensions|enum|Enum|IntEnum|StrEnum|Flag|IntFlag|Generic|Protocol"
                          r"|ABC|ABCMeta|namedtuple|NamedTuple|TypedDict|TYPE_CHECKING|abstractmethod)\b"
                          r"|dataclass|overload|contextmanager")
BARRED_NODES = (ast.Global, ast.AsyncFunctionDef, ast.AsyncFor, ast.AsyncWith, ast.Await, ast.Div, ast.MatMult,
                ast.Import, ast.MatchClass, ast.MatchMapping)
DOUBLE = set("__init__ __eq__ __repr__ __str__ __len__ __enter__ __exit__ __call__ __iter__".split())


def read(path):
    text = path.read_text(encoding="utf-8")
    return text, ast.parse(text)


def nodes(tree, *kinds):
    return [node for node in ast.walk(tree) if isinstance(node, kinds)]


def bound_names(tree):
    """Each name that is bound anywhere, but for attributes."""
    names = [node.id for node in nodes(tree, ast.Name) if not isinstance(node.ctx, ast.Load)]
    names += [node.name for node in nodes(tree, ast.FunctionDef, ast.ClassDef)]
    names += [node.arg for node in nodes(tree, ast.arg)]
    return names + [alias.asname or alias.name for node in nodes(tree, ast.ImportFrom) for alias in node.names]


def top_names(tree):
    names = [node.name for node in tree.body if isinstance(node, (ast.FunctionDef, ast.ClassDef))]
    return names + [target.id for node in tree.body if isinstance(node, ast.Assign) for target in node.targets]


class Language(unittest.TestCase):
    def test_files(self):
        self.assertIn(FOLDER / "__init__.py", FILES)
        others = [path.name for path in FOLDER.iterdir() if path not in FILES and path.name != "__pycache__"]
        self.assertEqual(others, [])
        for path in FILES:
            self.assertRegex(path.name, r"^[a-z0-9_]+\.py$")

    def test_characters_and_sizes(self):
        for path in FILES:
            with self.subTest(path.name):
                text, tree = read(path)
                self.assertRegex(text, r"\A[ -~\n]*\Z")
                lines = text.splitlines()
                self.assertLessEqual(len(lines), 400)
                self.assertLessEqual(max(map(len, lines)), 120)
                for node in nodes(tree, ast.FunctionDef):
                    self.assertLessEqual(node.end_lineno - node.lineno + 1, 40, node.name)

    def test_words(self):
        for path in FILES:
            with self.subTest(path.name):
                text, tree = read(path)
                self.assertIsNone(BARRED_WORDS.search(text))
                for node in nodes(tree, ast.Constant):
                    self.assertNotIsInstance(node.value, (float, complex))
                    self.assertFalse(isinstance(node.value, str) and "%" in node.value)

    def test_imports(self):
        imported = {}
        for path in FILES:
            with self.subTest(path.name):
                text, tree = read(path)
                imported[path.stem] = []
                for node in nodes(tree, ast.ImportFrom):
                    self.assertEqual((node.level, node.module.split(".")[0], node in tree.body), (0, "undocover", True))
                    other = node.module.split(".")[1]
                    defined = top_names(read(FOLDER / f"{other}.py")[1])
                    self.assertLessEqual({alias.name for alias in node.names}, set(defined))
                    imported[path.stem].append(other)
        while imported:
            free = [name for name in imported if not any(other in imported for other in imported[name])]
            self.assertTrue(free, f"a ring of imports among {sorted(imported)}")
            imported = {name: imported[name] for name in imported if name not in free}

    def test_module_level(self):
        for path in FILES:
            with self.subTest(path.name):
                text, tree = read(path)
                self.assertIsNotNone(ast.get_docstring(tree))
                for node in tree.body[1:]:
                    self.assertIsInstance(node, (ast.ImportFrom, ast.FunctionDef, ast.ClassDef, ast.Assign))
                names = top_names(tree)
                self.assertEqual(len(names), len(set(names)))

    def test_statements_and_expressions(self):
        for path in FILES:
            with self.subTest(path.name):
                text, tree = read(path)
                self.assertEqual(nodes(tree, *BARRED_NODES), [])
                for node in nodes(tree, ast.FunctionDef, ast.ClassDef):
                    self.assertEqual(node.decorator_list, [])
                for node in nodes(tree, ast.Compare):
                    for sign, side in zip(node.ops, node.comparators):
                        if isinstance(sign, (ast.Is, ast.IsNot)):
                            self.assertIsInstance(side, ast.Constant)

    def test_names(self):
        for path in FILES:
            with self.subTest(path.name):
                text, tree = read(path)
                names = bound_names(tree)
                shadowed = [name for name in names if name in dir(builtins) or name in BARRED_NAMES]
                self.assertEqual(shadowed, [])
                self.assertEqual([name for name in names if name.startswith("_") and name not in DOUBLE], [])
                read_names = {node.id for node in nodes(tree, ast.Name)}
                self.assertLessEqual(read_names - set(names), BUILTINS)

    def test_names_within_functions(self):
        for path in FILES:
            with self.subTest(path.name):
                text, tree = read(path)
                taken = {alias.asname or alias.name for node in nodes(tree, ast.ImportFrom) for alias in node.names}
                taken |= {node.name for node in nodes(tree, ast.ClassDef)}
                for function in nodes(tree, ast.FunctionDef):
                    self.assertEqual(taken & (set(bound_names(function)) - {function.name}), set(), function.name)

    def test_methods_and_attributes(self):
        trees = [read(path)[1] for path in FILES]
        own, assigned = set(), set()
        for tree in trees:
            for kind in nodes(tree, ast.ClassDef):
                own |= {node.name for node in kind.body if isinstance(node, ast.FunctionDef)}
            assigned |= {node.attr for node in nodes(tree, ast.Attribute) if isinstance(node.ctx, ast.Store)}
        self.assertEqual(own & assigned, set())
        for tree in trees:
            called = {node.func.attr for node in nodes(tree, ast.Call) if isinstance(node.func, ast.Attribute)}
            self.assertLessEqual(called, own | METHODS)
            self.assertLessEqual({node.attr for node in nodes(tree, ast.Attribute)} - called, assigned)


if __name__ == "__main__":
    unittest.main()
