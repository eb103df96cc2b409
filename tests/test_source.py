"""The files of the package keep to the small language in which it is written, as far as can be seen simply."""

import ast
import builtins
import pathlib
import unittest

PACKAGE = pathlib.Path(__file__).resolve().parent.parent / "noneleft"
FILES = sorted(PACKAGE.glob("*.py"))
LIBRARY = {"heapq": {"heappush", "heappop", "heapify", "heapreplace", "heappushpop"}, "collections": {"defaultdict", "deque"},
           "math": {"gcd", "lcm", "isqrt", "comb", "perm", "factorial"},
           "itertools": {"product", "combinations", "permutations", "chain", "accumulate", "pairwise", "islice", "zip_longest"}}
BUILTINS = set("""len range enumerate zip min max sum abs sorted reversed int str bool bytes list tuple dict set isinstance
    ord repr any all divmod iter next map Exception ValueError TypeError KeyError IndexError LookupError ZeroDivisionError
    ArithmeticError OverflowError RuntimeError NotImplementedError AttributeError StopIteration NotImplemented""".split())
METHODS = set("""append clear copy count endswith extend find get index insert isalnum isalpha isdigit islower isspace isupper
    items join keys ljust lower lstrip partition pop remove replace reverse rfind rjust rpartition rsplit rstrip setdefault
    split splitlines startswith strip update upper values zfill bit_length add discard""".split())
BARRED = set("""register mro elements open input law version_info with_traceback add_note attrgetter breakpoint compile
    copyright credits delattr dir eval exec exit gc globals help id importlib license locals methodcaller os quit setattr
    super vars sys typing enum""".split())
STATEMENTS = (ast.AsyncFunctionDef, ast.AsyncFor, ast.AsyncWith, ast.Await, ast.Global, ast.Import, ast.Div, ast.Yield,
              ast.YieldFrom, ast.NamedExpr, ast.Lambda, ast.AnnAssign)


def trees():
    return [(path, ast.parse(path.read_text(encoding="utf-8"))) for path in FILES]


class Source(unittest.TestCase):

    def test_the_folder(self):
        for path in PACKAGE.iterdir():
            if path.name != "__pycache__":
                self.assertEqual(path.suffix, ".py", path)
        self.assertIn("__init__.py", [path.name for path in FILES])
        for path in FILES:
            if path.name != "__init__.py":
                self.assertRegex(path.name, r"\A[a-z][a-z0-9_]*\.py\Z")
                self.assertFalse(hasattr(builtins, path.stem), path)

    def test_lines_and_sizes(self):
        for path in FILES:
            text = path.read_text(encoding="utf-8")
            self.assertTrue(all(sign == "\n" or " " <= sign <= "~" for sign in text), path)
            lines = text.split("\n")
            self.assertLess(len(lines), 400, path)
            self.assertLessEqual(max(len(line) for line in lines), 120, path)
        for path, tree in trees():
            for node in ast.walk(tree):
                if isinstance(node, ast.FunctionDef):
                    self.assertLessEqual(node.end_lineno - node.lineno + 1, 40, (path, node.name))
                    self.assertIsNotNone(ast.get_docstring(node) or node.name.startswith("__"), (path, node.name))

    def test_imports(self):
        for path, tree in trees():
            names = {other.stem for other in FILES}
            for node in ast.walk(tree):
                if isinstance(node, ast.ImportFrom):
                    self.assertEqual(node.level, 0)
                    self.assertTrue(all(one.asname is None and one.name != "*" for one in node.names), path)
                    if node.module in LIBRARY:
                        self.assertTrue({one.name for one in node.names} <= LIBRARY[node.module], path)
                        continue
                    self.assertTrue(node.module.startswith("noneleft."), (path, node.module))
                    self.assertIn(node.module.split(".")[1], names)
                    other = ast.parse((PACKAGE / (node.module.split(".")[1] + ".py")).read_text(encoding="utf-8"))
                    defined = {one.name for one in other.body if isinstance(one, (ast.FunctionDef, ast.ClassDef))}
                    self.assertTrue({one.name for one in node.names} <= defined, (path, node.module))

    def test_nothing_is_imported_in_vain(self):
        for path, tree in trees():
            used = {node.id for node in ast.walk(tree) if isinstance(node, ast.Name)}
            for node in ast.walk(tree):
                if isinstance(node, ast.ImportFrom):
                    self.assertTrue({one.name for one in node.names} <= used, path)

    def test_no_circle_of_imports(self):
        after = {path.stem: {node.module.split(".")[1] for node in ast.walk(tree)
                             if isinstance(node, ast.ImportFrom) and node.module.startswith("noneleft.")}
                 for path, tree in trees()}
        while after:
            ready = [name for name in after if not after[name] & set(after)]
            self.assertTrue(ready, after)
            for name in ready:
                del after[name]

    def test_statements_and_values(self):
        for path, tree in trees():
            for node in ast.walk(tree):
                where = (path.name, getattr(node, "lineno", 0))
                self.assertNotIsInstance(node, STATEMENTS, where)
                if isinstance(node, ast.Constant):
                    self.assertNotIsInstance(node.value, (float, complex), where)
                if isinstance(node, (ast.Is, ast.IsNot)):
                    continue
                if isinstance(node, ast.Compare) and isinstance(node.ops[0], (ast.Is, ast.IsNot)):
                    self.assertIsInstance(node.comparators[0], ast.Constant, where)
                if isinstance(node, (ast.For, ast.comprehension)):
                    self.assertNotIsInstance(node.iter, (ast.Set, ast.SetComp), where)
                if isinstance(node, ast.GeneratorExp):
                    self.fail(where)

    def test_names(self):
        for path, tree in trees():
            taken = {one.name for node in ast.walk(tree) if isinstance(node, ast.ImportFrom) for one in node.names}
            taken |= {node.name for node in ast.walk(tree) if isinstance(node, ast.ClassDef)}
            for node in ast.walk(tree):
                bound = []
                if isinstance(node, ast.Name) and isinstance(node.ctx, ast.Store):
                    bound = [node.id]
                if isinstance(node, ast.arg):
                    bound = [node.arg]
                for name in bound:
                    self.assertNotIn(name, taken, (path, node.lineno))
                if isinstance(node, (ast.FunctionDef, ast.ClassDef)):
                    bound = [node.name]
                for name in bound:
                    self.assertFalse(hasattr(builtins, name) and not name.startswith("__"), (path, name))
                    self.assertNotIn(name, BARRED, path)
                if isinstance(node, ast.Name) and isinstance(node.ctx, ast.Load) and hasattr(builtins, node.id):
                    self.assertIn(node.id, BUILTINS, (path, node.lineno))

    def test_methods(self):
        own = {node.name for _, tree in trees() for one in ast.walk(tree) if isinstance(one, ast.ClassDef)
               for node in one.body if isinstance(node, ast.FunctionDef)}
        for path, tree in trees():
            for node in ast.walk(tree):
                if isinstance(node, ast.Call) and isinstance(node.func, ast.Attribute):
                    self.assertIn(node.func.attr, METHODS | own, (path, node.lineno))


if __name__ == "__main__":
    unittest.main()
