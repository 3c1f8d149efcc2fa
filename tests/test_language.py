"""The rules of the language that a look at the files can tell: sizes, characters, imports, words that may stand."""

import ast
import builtins
import pathlib
import unittest

import mutesigns

FOLDER = pathlib.Path(mutesigns.__file__).parent
FILES = sorted(path for path in FOLDER.iterdir() if path.name != "__pycache__")
BUILTINS = set(
    "len range enumerate zip min max sum abs sorted reversed int str bool list tuple dict set isinstance ord repr any all "
    "divmod iter next map super type staticmethod ValueError NotImplemented".split())
METHODS = set(
    "append clear copy count endswith extend find get index insert isalnum isalpha isdigit islower isspace isupper items "
    "join keys ljust lower lstrip partition pop remove replace reverse rfind rjust rpartition rsplit rstrip setdefault "
    "split splitlines startswith strip update upper values zfill bit_length add discard".split())
DOUBLE = {"__init__", "__eq__", "__str__", "__len__", "__bool__", "__call__", "__contains__"}
LIBRARY = {"heapq", "math", "itertools", "collections"}
NO_NODES = (ast.GeneratorExp, ast.Lambda, ast.Yield, ast.YieldFrom, ast.Await, ast.AsyncFunctionDef, ast.Global,
            ast.Nonlocal, ast.With, ast.Match, ast.NamedExpr, ast.Div, ast.AnnAssign, ast.Assert, ast.Delete)


COMPREHENSIONS = (ast.ListComp, ast.SetComp, ast.DictComp)


def targets_of(node):
    """The names that a comprehension assigns."""
    return [part for part in ast.walk(ast.Module([step.target for step in node.generators], [])) if isinstance(part, ast.Name)]


def trees():
    return {path.stem: ast.parse(path.read_text()) for path in FILES}


def nodes(kind):
    return [(name, node) for name, tree in trees().items() for node in ast.walk(tree) if isinstance(node, kind)]


def own_names():
    """The names that each file defines itself."""
    return {name: {node.name for node in tree.body if isinstance(node, (ast.FunctionDef, ast.ClassDef))}
            | {target.id for node in tree.body if isinstance(node, ast.Assign) for target in node.targets}
            for name, tree in trees().items()}


class Language(unittest.TestCase):
    def test_files(self):
        self.assertTrue(FILES)
        for path in FILES:
            self.assertEqual(path.suffix, ".py")
            text = path.read_text()
            lines = text.split("\n")
            self.assertLessEqual(len(lines), 399, path.name)
            self.assertLessEqual(max(len(line) for line in lines), 120, path.name)
            self.assertTrue(all(mark == "\n" or " " <= mark <= "~" for mark in text), path.name)

    def test_functions(self):
        for name, node in nodes((ast.FunctionDef, ast.ClassDef)):
            with self.subTest(file=name, name=node.name):
                self.assertTrue(ast.get_docstring(node) or node.name.startswith("__"))
                if isinstance(node, ast.FunctionDef):
                    self.assertLessEqual(node.end_lineno - node.lineno + 1, 40)
                    self.assertIn([one.id for one in node.decorator_list], ([], ["staticmethod"]))
                    self.assertTrue(not node.name.startswith("__") or node.name in DOUBLE)

    def test_module_level(self):
        for name, tree in trees().items():
            for node in tree.body[1:]:
                self.assertIsInstance(node, (ast.ImportFrom, ast.FunctionDef, ast.ClassDef, ast.Assign), name)
            self.assertIsNotNone(ast.get_docstring(tree), name)

    def test_no_such_statements(self):
        self.assertEqual([(name, node.lineno) for name, node in nodes(NO_NODES)], [])
        compared = [node for _, node in nodes(ast.Compare) if any(isinstance(op, (ast.Is, ast.IsNot)) for op in node.ops)]
        for node in compared:
            right = node.comparators[0]
            is_class = ast.unparse(node.left).startswith("type(")
            self.assertTrue(is_class or isinstance(right, ast.Constant), node.lineno)

    def test_handlers(self):
        """Only the errors of the package are caught, where a desk tells which line failed."""
        for name, node in nodes(ast.Try):
            self.assertIn(name, ("desk", "stories"))
            self.assertEqual([ast.unparse(handler.type) for handler in node.handlers], ["SignError"])
            self.assertEqual((len(node.body), node.orelse, node.finalbody), (1, [], []))

    def test_stars(self):
        """Behind the star of a call stands a name, or an attribute off a name."""
        for name, node in nodes(ast.Call):
            for value in [part.value for part in node.args if isinstance(part, ast.Starred)]:
                self.assertTrue(isinstance(value, ast.Name) or isinstance(value, ast.Attribute) and isinstance(value.value, ast.Name),
                                f"{name}: {node.lineno}")

    def test_sets(self):
        """A set stands in a place of its own, and beside no keyword."""
        for name, node in nodes(ast.Call):
            told = [part for part in node.args if isinstance(part, ast.SetComp)
                    or isinstance(part, ast.Call) and ast.unparse(part.func) == "set"]
            if told:
                self.assertIn(ast.unparse(node.func), ("sorted", "len"), f"{name}: {node.lineno}")
                self.assertEqual(node.keywords, [], f"{name}: {node.lineno}")

    def test_constants(self):
        for name, node in nodes(ast.Constant):
            self.assertNotIsInstance(node.value, (float, bytes, complex))
            if isinstance(node.value, str):
                self.assertNotIn("%", node.value)

    def test_imports(self):
        names = own_names()
        self.assertEqual(nodes(ast.Import), [])
        for name, node in nodes(ast.ImportFrom):
            for alias in node.names:
                with self.subTest(file=name, name=alias.name):
                    self.assertIsNone(alias.asname)
                    if node.module not in LIBRARY:
                        package, file = node.module.split(".")
                        self.assertEqual(package, "mutesigns")
                        self.assertIn(alias.name, names[file])

    def test_no_circle_of_imports(self):
        needs = {name: set() for name in trees()}
        for name, node in nodes(ast.ImportFrom):
            if node.module not in LIBRARY:
                needs[name].add(node.module.split(".")[1])
        while any(not wanted for wanted in needs.values()):
            free = {name for name, wanted in needs.items() if not wanted}
            needs = {name: wanted - free for name, wanted in needs.items() if name not in free}
        self.assertEqual(needs, {})

    def test_names(self):
        bound_here = own_names()
        for name, tree in trees().items():
            imported = {alias.name for node in tree.body if isinstance(node, ast.ImportFrom) for alias in node.names}
            known = bound_here[name] | imported
            for function in [node for node in ast.walk(tree) if isinstance(node, ast.FunctionDef)]:
                self.check_names(name, function, known, imported)

    def check_names(self, file, function, known, imported):
        args = function.args
        local = {arg.arg for arg in args.args + args.kwonlyargs + [args.vararg, args.kwarg] if arg is not None}
        local |= {node.id for node in ast.walk(function) if isinstance(node, ast.Name) and isinstance(node.ctx, ast.Store)}
        local |= {node.name for node in ast.walk(function) if isinstance(node, ast.ExceptHandler)}
        read = {node.id for node in ast.walk(function) if isinstance(node, ast.Name) and isinstance(node.ctx, ast.Load)}
        with self.subTest(file=file, function=function.name):
            self.assertEqual(read - local - known - BUILTINS, set())
            self.assertEqual(local & (imported | set(dir(builtins))), set())
            self.assertTrue("_" not in read)

    def test_nested_comprehensions(self):
        """A name of a comprehension in another one is not assigned further out."""
        for name, function in nodes(ast.FunctionDef):
            inside = {id(part) for node in ast.walk(function) if isinstance(node, COMPREHENSIONS) for part in targets_of(node)}
            assigned = {arg.arg for arg in function.args.args} | {
                node.id for node in ast.walk(function)
                if isinstance(node, ast.Name) and isinstance(node.ctx, ast.Store) and id(node) not in inside}
            for outer in [node for node in ast.walk(function) if isinstance(node, COMPREHENSIONS)]:
                for inner in [node for node in ast.walk(outer) if isinstance(node, COMPREHENSIONS) and node is not outer]:
                    told = {part.id for part in targets_of(inner)}
                    known = assigned | {part.id for part in targets_of(outer)}
                    self.assertEqual(told & known, set(), f"{name}: {inner.lineno}")

    def test_classes(self):
        for name, node in nodes(ast.ClassDef):
            self.assertFalse(node.name.startswith("_"), name)

    def test_methods(self):
        own = {method.name for _, node in nodes(ast.ClassDef) for method in node.body if isinstance(method, ast.FunctionDef)}
        for name, node in nodes(ast.Call):
            if isinstance(node.func, ast.Attribute):
                self.assertIn(node.func.attr, own | METHODS, f"{name}: {node.lineno}")


if __name__ == "__main__":
    unittest.main()
