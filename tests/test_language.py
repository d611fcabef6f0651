"""The plainest of the rules that the files of the package keep to: folder, imports, sizes, characters, words."""
import ast
import builtins
import os
import re
import unittest

ROOT = os.path.dirname(os.path.dirname(os.path.abspath(__file__)))
PACKAGE = os.path.join(ROOT, "sweepends")
LIBRARY = {"math": {"gcd", "lcm", "isqrt", "comb", "perm", "factorial"}}
BUILTINS = set(
    "len range enumerate zip min max sum abs sorted reversed int str bool list tuple dict set isinstance type any all"
    " divmod pow ord repr map iter next bytes frozenset ValueError KeyError ZeroDivisionError".split())
METHODS = set(
    "append clear copy count endswith extend find get index insert isalnum isalpha isdigit islower isspace isupper"
    " items join keys ljust lower lstrip partition pop remove replace reverse rfind rjust rpartition rsplit rstrip"
    " setdefault split splitlines startswith strip update upper values zfill bit_length add discard sort".split())
AT_ONCE = set("list tuple dict sorted sum any all min max".split())
# Words that stand nowhere, or in docstrings and comments only.
BARRED = re.compile(r"_wall|_WallAttr")
BARRED_NAMES = set(
    "mro elements open input law version_info with_traceback add_note register compile copyright credits dir eval exec"
    " exit gc globals help id license locals os quit super vars object format hash next map round filter".split())
NOT_THERE = (ast.AsyncFunctionDef, ast.AsyncFor, ast.AsyncWith, ast.Await, ast.Div, ast.Import)


def files():
    return sorted(name for name in os.listdir(PACKAGE) if name != "__pycache__")


def text_of(name):
    with open(os.path.join(PACKAGE, name), encoding="ascii", newline="") as file:
        return file.read()


def trees():
    return [(name, ast.parse(text_of(name))) for name in files()]


def nodes():
    return [(name, node) for name, tree in trees() for node in ast.walk(tree)]


def bound(tree):
    """The names that the module level of a file binds, with the file of each import."""
    found = []
    for node in tree.body:
        if isinstance(node, ast.ImportFrom):
            found += [(alias.asname or alias.name, node.module) for alias in node.names]
        elif isinstance(node, (ast.FunctionDef, ast.ClassDef)):
            found.append((node.name, None))
        elif isinstance(node, ast.Assign):
            found.append((node.targets[0].id, None))
    return found


class Language(unittest.TestCase):
    def test_folder(self):
        self.assertIn("__init__.py", files())
        for name in files():
            self.assertRegex(name, r"^[a-z_]+\.py$")

    def test_sizes_and_characters(self):
        for name in files():
            text = text_of(name)
            self.assertLessEqual(len(text.splitlines()), 399, name)
            self.assertTrue(all(sign == "\n" or " " <= sign <= "~" for sign in text), name)
            self.assertLessEqual(max(len(line) for line in text.split("\n")), 120, name)
        for name, node in nodes():
            if isinstance(node, ast.FunctionDef):
                self.assertLessEqual(node.end_lineno - node.lineno + 1, 40, node.name)
                self.assertEqual(node.decorator_list, [], node.name)

    def test_kinds_of_statements(self):
        for name, tree in trees():
            for node in tree.body:
                is_docstring = isinstance(node, ast.Expr) and isinstance(node.value, ast.Constant)
                kinds = (ast.ImportFrom, ast.FunctionDef, ast.ClassDef, ast.Assign)
                self.assertTrue(is_docstring or isinstance(node, kinds), (name, node.lineno))
        for name, node in nodes():
            self.assertNotIsInstance(node, NOT_THERE, (name, getattr(node, "lineno", None)))
            if isinstance(node, ast.Constant):
                self.assertNotIsInstance(node.value, (float, complex), name)

    def test_imports(self):
        known = {"sweepends." + name[:-3]: dict(bound(tree)) for name, tree in trees()}
        for name, tree in trees():
            told = [word for word, _ in bound(tree)]
            self.assertEqual(len(told), len(set(told)), name)
            for word, module in bound(tree):
                if module in LIBRARY:
                    self.assertIn(word, LIBRARY[module])
                elif module is not None:
                    self.assertIn(word, known[module])
                    self.assertIsNone(known[module][word], f"{word} is not defined in {module}")

    def test_no_ring_of_imports(self):
        needs = {"sweepends." + name[:-3]: {module for _, module in bound(tree) if module} for name, tree in trees()}
        done = set(LIBRARY)
        while len(done) < len(needs) + len(LIBRARY):
            ready = {name for name, modules in needs.items() if name not in done and modules <= done}
            self.assertTrue(ready, "files import from each other")
            done |= ready

    def test_names(self):
        every = set(dir(builtins))
        for name, tree in trees():
            imported = {word for word, module in bound(tree) if module}
            for node in ast.walk(tree):
                if isinstance(node, ast.Name) and isinstance(node.ctx, ast.Load) and node.id in every:
                    self.assertIn(node.id, BUILTINS, (name, node.lineno))
                local = node.id if isinstance(node, ast.Name) and isinstance(node.ctx, ast.Store) else None
                local = node.arg if isinstance(node, ast.arg) else local
                if local is not None:
                    self.assertNotIn(local, every, (name, node.lineno))
                    self.assertNotIn(local, imported, (name, node.lineno))

    def test_methods(self):
        for name, node in nodes():
            if isinstance(node, ast.Call) and isinstance(node.func, ast.Attribute):
                self.assertIn(node.func.attr, METHODS, (name, node.lineno))

    def test_words(self):
        for name, tree in trees():
            self.assertIsNone(BARRED.search(text_of(name)), name)
            told = {node.id for node in ast.walk(tree) if isinstance(node, ast.Name)}
            told |= {node.arg for node in ast.walk(tree) if isinstance(node, (ast.arg, ast.keyword))}
            told |= {node.name for node in ast.walk(tree) if isinstance(node, (ast.FunctionDef, ast.ClassDef))}
            told |= {node.attr for node in ast.walk(tree) if isinstance(node, ast.Attribute)}
            self.assertEqual(told & BARRED_NAMES, set(), name)
            self.assertFalse([word for word in told if word is not None and word.startswith("__")
                              and word != "__init__"], name)

    def test_no_powers_and_no_bare_strings(self):
        for name, node in nodes():
            if isinstance(node, ast.BinOp):
                self.assertNotIsInstance(node.op, (ast.Pow, ast.Div), (name, node.lineno))
            if isinstance(node, ast.Constant) and isinstance(node.value, str):
                self.assertNotIn("%", node.value, (name, node.lineno))

    def test_iterated_at_once(self):
        """What is made to be iterated stands in the head of a loop or in a call that iterates it."""
        for name, tree in trees():
            heads = {id(node.iter) for node in ast.walk(tree) if isinstance(node, (ast.For, ast.comprehension))}
            calls = [node for node in ast.walk(tree) if isinstance(node, ast.Call) and isinstance(node.func, ast.Name)]
            for call in calls:
                if call.func.id in AT_ONCE | {"enumerate", "zip"}:
                    heads |= {id(part) for part in call.args[:1]}
                if call.func.id == "reversed":
                    heads |= {id(part) for part in call.args if "range" in ast.dump(part)}
            for node in ast.walk(tree):
                kind = node.func.id if isinstance(node, ast.Call) and isinstance(node.func, ast.Name) else None
                if kind in ("zip", "enumerate", "reversed", "range") or isinstance(node, ast.GeneratorExp):
                    self.assertIn(id(node), heads, (name, node.lineno))
                if kind in AT_ONCE and any(isinstance(part, ast.GeneratorExp) for part in node.args):
                    self.assertEqual(len(node.args) + len(node.keywords), 1, (name, node.lineno))

    def test_is(self):
        for name, node in nodes():
            if isinstance(node, ast.Compare) and isinstance(node.ops[0], (ast.Is, ast.IsNot)):
                left, right = node.left, node.comparators[0]
                is_kind = isinstance(left, ast.Call) and left.func.id == "type" and isinstance(right, ast.Name)
                is_literal = isinstance(right, ast.Constant) and right.value in (None, True, False)
                self.assertTrue(is_kind or is_literal, (name, node.lineno))


if __name__ == "__main__":
    unittest.main()
