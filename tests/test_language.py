"""The rules of LANGUAGE.md that a look at the files can tell, over the whole package."""

import ast
import builtins
import pathlib
import re
import unittest

FOLDER = pathlib.Path(__file__).resolve().parent.parent / "shownviews"
FILES = sorted(FOLDER.glob("*.py"))
TEXTS = {path.stem: path.read_text() for path in FILES}
TREES = {name: ast.parse(text) for name, text in TEXTS.items()}

BUILTINS = """len range enumerate zip min max sum abs sorted reversed int str bool list tuple dict set isinstance ord
repr any all divmod pow ValueError""".split()
METHODS = """append clear copy count endswith extend find get index insert isalnum isalpha isdigit islower isspace
isupper items join keys ljust lower lstrip partition pop remove replace reverse rfind rjust rpartition rsplit rstrip
setdefault split splitlines startswith strip update upper values zfill bit_length""".split()
DUNDERS = ("__init__", "__eq__", "__repr__", "__str__", "__len__")
BARRED_NAMES = """mro elements open input law version_info with_traceback add_note register exit help license compile
dir vars os id gc super eval exec globals locals quit credits copyright builtins importlib sys""".split()
BARRED_WORDS = r"\b(type|typing|enum|Enum|Protocol|ABC|Generic|namedtuple|dataclass|overload|contextmanager)\b"
LEAVES = (ast.AsyncFunctionDef, ast.Await, ast.Global, ast.Yield, ast.YieldFrom, ast.Div, ast.MatMult, ast.Import,
          ast.With, ast.Match, ast.NamedExpr, ast.TryStar, ast.GeneratorExp, ast.Lambda, ast.Nonlocal, ast.AnnAssign)


def walk(kind):
    """All nodes of a kind with the names of their files."""
    return [(name, node) for name in TREES for node in ast.walk(TREES[name]) if isinstance(node, kind)]


def defined(tree):
    """The names that a file itself binds at module level, by anything but imports."""
    told = [node.name for node in tree.body if isinstance(node, (ast.FunctionDef, ast.ClassDef))]
    return told + [node.targets[0].id for node in tree.body if isinstance(node, ast.Assign)]


def imports(tree):
    return [node for node in tree.body if isinstance(node, ast.ImportFrom)]


class Language(unittest.TestCase):
    def test_files(self):
        kept = [path for path in FOLDER.iterdir() if path.name != "__pycache__"]
        self.assertEqual(sorted(kept), FILES)
        for path in FILES:
            self.assertRegex(path.name, r"\A(__init__|[a-z][a-z0-9_]*)\.py\Z")

    def test_sizes_and_signs(self):
        for name, text in TEXTS.items():
            self.assertLessEqual(len(text.splitlines()), 399, name)
            self.assertRegex(text, r"\A[ -~\n]*\Z", name)
            for line in text.splitlines():
                self.assertLessEqual(len(line), 120, name)
        for name, node in walk(ast.FunctionDef):
            self.assertLessEqual(node.end_lineno - node.lineno + 1, 40, (name, node.name))

    def test_imports(self):
        for name, tree in TREES.items():
            for node in imports(tree):
                self.assertEqual(node.level, 0)
                self.assertTrue(node.module.startswith("shownviews."), name)
                there = defined(TREES[node.module.split(".")[1]])
                for one in node.names:
                    self.assertIn(one.name, there, name)
                    self.assertIsNone(one.asname)
            found = [node for node in ast.walk(tree) if isinstance(node, (ast.Import, ast.ImportFrom))]
            self.assertEqual(found, imports(tree), name)

    def test_all_imports_are_used_and_none_goes_round(self):
        links = {name: [node.module.split(".")[1] for node in imports(tree)] for name, tree in TREES.items()}
        for name in links:
            reached, waiting = [], list(links[name])
            while waiting:
                reached.append(waiting.pop())
                waiting.extend([other for other in links[reached[-1]] if other not in reached])
            self.assertNotIn(name, reached)
            used = [node.id for node in ast.walk(TREES[name]) if isinstance(node, ast.Name)]
            for node in imports(TREES[name]):
                for one in node.names:
                    self.assertIn(one.name, used, name)

    def test_module_level(self):
        for name, tree in TREES.items():
            for node in tree.body:
                told = isinstance(node, ast.Expr) and isinstance(node.value, ast.Constant)
                kinds = (ast.ImportFrom, ast.FunctionDef, ast.ClassDef, ast.Assign)
                self.assertTrue(told or isinstance(node, kinds), name)
            bound = defined(tree) + [one.name for node in imports(tree) for one in node.names]
            self.assertEqual(len(bound), len(set(bound)), name)

    def test_what_is_not_used(self):
        self.assertEqual([(name, node) for name, node in walk(LEAVES)], [])
        for name, node in walk((ast.FunctionDef, ast.ClassDef)):
            self.assertEqual(node.decorator_list, [], name)
        for name, node in walk(ast.Constant):
            self.assertNotIsInstance(node.value, (float, complex, bytes), name)
            if isinstance(node.value, str):
                self.assertNotIn("%", node.value, name)
        for name, node in walk(ast.Call):
            self.assertNotIn(getattr(node.func, "attr", ""), ("sort", "discard"), name)

    def test_names(self):
        for name, tree in TREES.items():
            taken = [one.name for node in imports(tree) for one in node.names]
            taken += [node.name for node in tree.body if isinstance(node, ast.ClassDef)]
            names = [node for node in ast.walk(tree) if isinstance(node, ast.Name)]
            bound = [node.id for node in names if isinstance(node.ctx, ast.Store)]
            bound += [node.arg for node in ast.walk(tree) if isinstance(node, ast.arg)]
            bound += [node.name for node in ast.walk(tree) if isinstance(node, ast.ExceptHandler) and node.name]
            self.assertEqual([one for one in bound if one in taken], [], name)
            bound += [node.name for node in ast.walk(tree) if isinstance(node, (ast.FunctionDef, ast.ClassDef))]
            for one in bound:
                self.assertTrue(one in DUNDERS or re.fullmatch(r"_|_?[A-Za-z][A-Za-z0-9_]*", one), (name, one))
                self.assertNotIn(one, BARRED_NAMES, name)
                self.assertFalse(one not in DUNDERS and hasattr(builtins, one), (name, one))
            own = bound + taken + defined(tree)
            for node in names:
                self.assertIn(node.id, [*BUILTINS, *own], name)

    def test_barred_words(self):
        for name, tree in TREES.items():
            for node in ast.walk(tree):
                for one in (getattr(node, "id", None), getattr(node, "attr", None), getattr(node, "arg", None)):
                    self.assertFalse(one and re.search(BARRED_WORDS, one), (name, one))
            self.assertNotRegex(TEXTS[name], r"\b_(wall|WallAttr)", name)

    def test_methods(self):
        own = [node.name for _, node in walk(ast.FunctionDef)]
        for name, node in walk(ast.Call):
            if isinstance(node.func, ast.Attribute):
                self.assertIn(node.func.attr, METHODS + own, name)

    def test_sets_stand_only_where_they_may(self):
        for name, tree in TREES.items():
            fine = []
            for node in ast.walk(tree):
                if isinstance(node, ast.Call) and getattr(node.func, "id", "") in ("sorted", "len"):
                    fine.extend(node.args if not node.keywords else [])
                if isinstance(node, ast.Compare):
                    fine.extend(node.comparators)
            for node in ast.walk(tree):
                made = isinstance(node, ast.Call) and getattr(node.func, "id", "") in ("set", "frozenset")
                if made or isinstance(node, (ast.Set, ast.SetComp)):
                    self.assertIn(node, fine, (name, node.lineno))

    def test_what_is_raised_and_caught(self):
        own = defined(TREES["errors"]) + ["NotRead"]
        bare = [inner for _, node in walk(ast.ExceptHandler) for inner in ast.walk(node) if isinstance(inner, ast.Raise)]
        for name, node in walk(ast.Raise):
            if node.exc is None:
                self.assertIn(node, bare, name)
            else:
                self.assertTrue(isinstance(node.exc, ast.Call) and node.exc.func.id in own, name)
        for name, node in walk(ast.ExceptHandler):
            for one in node.type.elts if isinstance(node.type, ast.Tuple) else [node.type]:
                self.assertIn(one.id, own, name)
        for name, node in walk(ast.Try):
            self.assertEqual(node.finalbody, [], name)

    def test_the_right_of_powers_and_is(self):
        for name, node in walk(ast.BinOp):
            if isinstance(node.op, ast.Pow):
                self.assertIsInstance(node.right, ast.Constant, name)
        for name, node in walk(ast.Compare):
            for sign, other in zip(node.ops, node.comparators):
                if isinstance(sign, (ast.Is, ast.IsNot)):
                    self.assertTrue(isinstance(other, ast.Constant), name)
