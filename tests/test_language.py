"""What of the language's rules shows by counting and by names; the rest of them is for a reader."""

import ast
import builtins
import pathlib
import unittest

FOLDER = pathlib.Path(__file__).resolve().parent.parent / "wirelooker"
LIBRARY = {"heapq", "math", "itertools", "collections", "__future__"}
BUILTINS = set("len range enumerate zip min max sum abs sorted reversed int str bool bytes list tuple dict set frozenset "
               "isinstance ord repr any all divmod pow getattr hasattr setattr iter next map super print Exception "
               "ValueError TypeError KeyError IndexError LookupError ZeroDivisionError ArithmeticError OverflowError "
               "RuntimeError NotImplementedError AttributeError StopIteration NotImplemented".split())
METHODS = set("append clear copy count endswith extend find get index insert isalnum isalpha isdigit islower isspace "
              "isupper items join keys ljust lower lstrip partition pop remove replace reverse rfind rjust rpartition "
              "rsplit rstrip setdefault split splitlines startswith strip update upper values zfill bit_length add "
              "discard encode decode hex fromhex to_bytes from_bytes format sort __init__".split())
UNUSED = set("register mro elements open input law version_info with_traceback add_note type typing enum Enum IntEnum "
             "Flag Generic Protocol ABC namedtuple dataclass overload contextmanager".split())
STATEMENTS = (ast.Global, ast.AsyncFunctionDef, ast.AsyncFor, ast.AsyncWith, ast.Import, ast.Await)


class TestLanguage(unittest.TestCase):
    def setUp(self):
        self.trees = {path.stem: ast.parse(path.read_text("ascii")) for path in FOLDER.glob("*.py")}

    def nodes(self, *kinds):
        for name, tree in self.trees.items():
            for node in ast.walk(tree):
                if isinstance(node, kinds):
                    yield name, node

    def test_files(self):
        for path in FOLDER.iterdir():
            if path.name != "__pycache__":
                self.assertEqual(path.suffix, ".py", path)
        self.assertIn("__init__", self.trees)

    def test_sizes_and_signs(self):
        for path in FOLDER.glob("*.py"):
            rows = path.read_text("ascii").split("\n")
            self.assertLessEqual(len(rows), 399, path)
            for row in rows:
                self.assertLessEqual(len(row), 120, row)
                self.assertTrue(all(" " <= sign <= "~" for sign in row), row)
        for name, node in self.nodes(ast.FunctionDef):
            self.assertLessEqual(node.end_lineno - node.lineno + 1, 40, (name, node.name))

    def test_imports(self):
        reached = {name: set() for name in self.trees}
        for name, node in self.nodes(ast.ImportFrom):
            self.assertEqual(node.level, 0)
            if node.module in LIBRARY:
                continue
            package, file = node.module.split(".")
            self.assertEqual(package, "wirelooker")
            reached[name].add(file)
            bound = {part.name for part in self.trees[file].body if isinstance(part, (ast.FunctionDef, ast.ClassDef))}
            for part in self.trees[file].body:
                if isinstance(part, ast.Assign):
                    bound.add(part.targets[0].id)
            for alias in node.names:
                self.assertIn(alias.name, bound, (name, node.module))
        done = set()
        while len(done) < len(reached):
            ready = [name for name in reached if name not in done and reached[name] <= done]
            self.assertTrue(ready, "files import from each other")
            done.update(ready)

    def test_imports_are_used(self):
        for name, tree in self.trees.items():
            read = {node.id for node in ast.walk(tree) if isinstance(node, ast.Name)}
            for node in ast.walk(tree):
                if isinstance(node, ast.ImportFrom) and name != "__init__":
                    for alias in node.names:
                        self.assertIn(alias.asname or alias.name, read, name)

    def test_statements_and_values(self):
        self.assertEqual(list(self.nodes(*STATEMENTS)), [])
        for name, node in self.nodes(ast.Constant):
            self.assertNotIsInstance(node.value, (float, complex), name)
        for name, node in self.nodes(ast.BinOp):
            self.assertNotIsInstance(node.op, (ast.Div, ast.MatMult), name)

    def test_numbers_alone_are_divided(self):
        # The package makes bytes, so what stands ahead of the sign of division with a rest must show that it is a number.
        for name, node in self.nodes(ast.BinOp):
            self.assertNotIsInstance(node.op, ast.Pow, name)
            if isinstance(node.op, ast.Mod):
                self.assertIsInstance(node.left, ast.Call, name)
                self.assertIn(node.left.func.id, ("sum", "len", "int", "abs", "ord"), name)
        for path in FOLDER.glob("*.py"):
            for node in ast.walk(self.trees[path.stem]):
                if isinstance(node, ast.Constant) and isinstance(node.value, (str, bytes)):
                    self.assertNotIn("%", str(node.value), path)

    def test_iterated_at_once(self):
        self.assertEqual(list(self.nodes(ast.GeneratorExp, ast.Yield, ast.YieldFrom, ast.SetComp)), [])
        kept = ("zip", "enumerate", "reversed", "range", "map")
        for name, node in self.nodes(ast.Assign, ast.Return):
            if isinstance(node.value, ast.Call) and isinstance(node.value.func, ast.Name):
                self.assertNotIn(node.value.func.id, kept, name)

    def test_lengths(self):
        for name, node in self.nodes(ast.FunctionDef):
            if node.name == "__len__":
                told = [part for part in ast.walk(node) if isinstance(part, ast.Return)]
                self.assertIn(node.body[-1], told)
                for part in told:
                    self.assertTrue(isinstance(part.value, ast.Constant) or part.value.func.id == "len", name)

    def test_names(self):
        for name, tree in self.trees.items():
            bound = {node.name for node in ast.walk(tree) if isinstance(node, (ast.FunctionDef, ast.ClassDef))}
            bound |= {node.id for node in ast.walk(tree) if isinstance(node, ast.Name) and isinstance(node.ctx, ast.Store)}
            bound |= {node.arg for node in ast.walk(tree) if isinstance(node, ast.arg)}
            bound |= {node.name for node in ast.walk(tree) if isinstance(node, ast.ExceptHandler) and node.name}
            imports = {part.name for node in ast.walk(tree) if isinstance(node, ast.ImportFrom) for part in node.names}
            self.assertFalse(bound & imports, name)
            self.assertFalse(bound & set(dir(builtins)), name)
            self.assertFalse((bound | imports) & UNUSED, name)
            for node in ast.walk(tree):
                if isinstance(node, ast.Name) and isinstance(node.ctx, ast.Load):
                    self.assertIn(node.id, bound | imports | BUILTINS, name)

    def test_methods(self):
        own = {node.name for _, node in self.nodes(ast.FunctionDef)}
        for name, node in self.nodes(ast.Call):
            if isinstance(node.func, ast.Attribute):
                self.assertIn(node.func.attr, own | METHODS, name)


if __name__ == "__main__":
    unittest.main()
