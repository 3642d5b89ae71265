"""Those rules of LANGUAGE.md that can be looked up without running the program."""

import ast
import unittest
from pathlib import Path

PACKAGE = Path(__file__).parent.parent / "sharedscopes"

BUILTINS = set("""len range enumerate zip min max sum abs sorted reversed int str bool list tuple dict set frozenset
    isinstance ord repr any all divmod iter next map Exception ValueError TypeError KeyError IndexError LookupError
    ZeroDivisionError ArithmeticError OverflowError RuntimeError NotImplementedError AttributeError StopIteration
    NotImplemented property staticmethod classmethod super""".split())

METHODS = set("""append clear copy count endswith extend find get index insert isalnum isalpha isdigit islower isspace
    isupper items join keys ljust lower lstrip partition pop remove replace reverse rfind rjust rpartition rsplit rstrip
    setdefault split splitlines startswith strip update upper values zfill bit_length add discard title capitalize
    swapcase casefold expandtabs removeprefix removesuffix rindex isascii isdecimal isnumeric isidentifier
    isprintable""".split())

LIBRARY = {"heapq": {"heappush", "heappop", "heapify", "heapreplace", "heappushpop"},
           "math": {"gcd", "lcm", "isqrt", "comb", "perm", "factorial"}}

BARRED = set("""register mro elements open input law version_info with_traceback add_note attrgetter breakpoint builtins
    compile copyright credits delattr dir eval exec exit gc getattr globals hasattr help id importlib license locals
    methodcaller os quit setattr type vars sys hash next iter map filter round format print object float bytes chr hex
    pow slice callable vars memoryview bytearray complex bin oct ascii""".split())

DUNDERS = set("""init eq repr str len enter exit call iter lt le gt ge ne add sub mul floordiv mod pow and or xor neg
    pos bool contains getitem setitem""".split())

# Some of these are never allowed, the others in few places only; the program does without all of them.
NODES = (ast.AsyncFunctionDef, ast.Await, ast.Global, ast.Import, ast.GeneratorExp, ast.Set, ast.Div, ast.JoinedStr,
         ast.AnnAssign, ast.TryStar)

VIEWS = ("zip", "enumerate", "reversed", "items", "keys", "values")


def files():
    return sorted(PACKAGE.rglob("*.py"))


def trees():
    for path in files():
        yield path, ast.parse(path.read_text())


def bound_names(tree):
    """All names that the file gives to something, with their lines; attributes are told apart."""
    for node in ast.walk(tree):
        if isinstance(node, ast.Name) and isinstance(node.ctx, ast.Store):
            yield node.id, node.lineno
        elif isinstance(node, (ast.FunctionDef, ast.ClassDef)):
            yield node.name, node.lineno
        elif isinstance(node, ast.arg):
            yield node.arg, node.lineno


class LanguageTest(unittest.TestCase):
    def test_the_folder_holds_only_plain_files_of_the_program(self):
        for path in PACKAGE.rglob("*"):
            if "__pycache__" not in path.parts:
                self.assertTrue(path.suffix == ".py" and path.parent == PACKAGE, path)

    def test_sizes_and_signs(self):
        for path in files():
            text = path.read_text()
            self.assertTrue(all(sign == "\n" or " " <= sign <= "~" for sign in text), path)
            self.assertLessEqual(len(text.splitlines()), 399, path)
            self.assertLessEqual(max((len(row) for row in text.splitlines()), default=0), 120, path)

    def test_functions_are_short(self):
        for path, tree in trees():
            for node in ast.walk(tree):
                if isinstance(node, ast.FunctionDef):
                    self.assertLessEqual(node.end_lineno - node.lineno + 1, 40, (path, node.name))

    def test_imports(self):
        modules = {f"sharedscopes.{path.stem}": path for path in files()}
        for path, tree in trees():
            for node in ast.walk(tree):
                if isinstance(node, ast.ImportFrom):
                    self.assertIn(node, tree.body)
                    self.assertTrue(all(alias.asname is None and alias.name != "*" for alias in node.names))
                    if node.module in LIBRARY:
                        self.assertLessEqual({alias.name for alias in node.names}, LIBRARY[node.module])
                        continue
                    self.assertIn(node.module, modules, path)
                    body = ast.parse(modules[node.module].read_text()).body
                    names = {made.name for made in body if isinstance(made, (ast.FunctionDef, ast.ClassDef))}
                    names |= {goal.id for made in body if isinstance(made, ast.Assign) for goal in made.targets}
                    self.assertLessEqual({alias.name for alias in node.names}, names, path)

    def test_no_files_import_one_another(self):
        steps = {path.stem: {node.module.split(".")[-1] for node in tree.body if isinstance(node, ast.ImportFrom)}
                 for path, tree in trees()}
        while steps:
            ends = [name for name, imported in steps.items() if not imported & set(steps)]
            self.assertTrue(ends, steps)
            for name in ends:
                del steps[name]

    def test_all_that_is_imported_is_used(self):
        for path, tree in trees():
            used = {node.id for node in ast.walk(tree) if isinstance(node, ast.Name)}
            for node in tree.body:
                if isinstance(node, ast.ImportFrom):
                    self.assertLessEqual({alias.name for alias in node.names}, used, path)

    def test_statements_and_expressions(self):
        for path, tree in trees():
            for node in ast.walk(tree):
                self.assertNotIsInstance(node, NODES, (path, getattr(node, "lineno", None)))
                if isinstance(node, (ast.Constant)) and isinstance(node.value, str):
                    self.assertNotIn(chr(37), node.value)
                if isinstance(node, ast.Constant):
                    self.assertNotIsInstance(node.value, (float, complex, bytes))

    def test_module_level(self):
        for path, tree in trees():
            names = []
            for node in tree.body:
                if isinstance(node, ast.Assign):
                    self.assertEqual(1, len(node.targets))
                    names.append(node.targets[0].id)
                    self.assertFalse([part for part in ast.walk(node.value) if isinstance(part, ast.Call)])
                elif isinstance(node, (ast.FunctionDef, ast.ClassDef)):
                    names.append(node.name)
                    self.assertFalse(node.decorator_list)
                elif isinstance(node, ast.ImportFrom):
                    names.extend(alias.name for alias in node.names)
                else:
                    self.assertIsInstance(node.value, ast.Constant, path)
            self.assertEqual(len(set(names)), len(names), path)

    def test_names(self):
        for path, tree in trees():
            tops = {alias.name for node in tree.body if isinstance(node, ast.ImportFrom) for alias in node.names}
            tops |= {node.name for node in tree.body if isinstance(node, ast.ClassDef)}
            inner = {(node.id if isinstance(node, ast.Name) else node.arg) for made in ast.walk(tree)
                     if isinstance(made, ast.FunctionDef) for node in ast.walk(made)
                     if isinstance(node, ast.arg) or (isinstance(node, ast.Name) and isinstance(node.ctx, ast.Store))}
            self.assertFalse(inner & tops, path)
            for name, line in bound_names(tree):
                self.assertNotIn(name, BUILTINS | BARRED, (path, line))
                if name.startswith("__"):
                    self.assertIn(name.strip("_"), DUNDERS, (path, line))

    def test_builtins_and_methods(self):
        own = {node.name for _, tree in trees() for node in ast.walk(tree) if isinstance(node, ast.FunctionDef)}
        for path, tree in trees():
            known = {name for name, _ in bound_names(tree)} | BUILTINS
            known |= {alias.name for node in tree.body if isinstance(node, ast.ImportFrom) for alias in node.names}
            for node in ast.walk(tree):
                if isinstance(node, ast.Name):
                    self.assertIn(node.id, known, (path, node.lineno))
                if isinstance(node, ast.Call) and isinstance(node.func, ast.Attribute):
                    self.assertIn(node.func.attr, METHODS | own, (path, node.lineno))
                    if node.func.attr in METHODS:
                        self.assertFalse(node.keywords)

    def test_views_are_iterated_at_once(self):
        for path, tree in trees():
            for node in ast.walk(tree):
                if isinstance(node, (ast.Assign, ast.Return)) and isinstance(node.value, ast.Call):
                    func = node.value.func
                    name = func.id if isinstance(func, ast.Name) else getattr(func, "attr", None)
                    self.assertNotIn(name, VIEWS, (path, node.lineno))

    def test_reversed_takes_only_plain_lists(self):
        for path, tree in trees():
            for node in ast.walk(tree):
                if isinstance(node, ast.Call) and isinstance(node.func, ast.Name) and node.func.id == "reversed":
                    name = getattr(getattr(node.args[0], "func", None), "id", None)
                    self.assertIn(name, ("list", "tuple", "sorted", "range"), (path, node.lineno))

    def test_stars_in_calls_stand_over_names(self):
        for path, tree in trees():
            for node in ast.walk(tree):
                if isinstance(node, ast.Starred):
                    self.assertIsInstance(node.value, (ast.Name, ast.Attribute), (path, node.lineno))

    def test_sets_are_only_asked(self):
        for path, tree in trees():
            for made in [node for node in ast.walk(tree) if isinstance(node, ast.FunctionDef)]:
                for name in [node.targets[0].id for node in ast.walk(made) if self.stores_set(node)]:
                    for use in [node for node in ast.walk(made) if isinstance(node, (ast.For, ast.comprehension))]:
                        self.assertFalse(isinstance(use.iter, ast.Name) and use.iter.id == name, (path, name))
                    for use in [node for node in ast.walk(made) if isinstance(node, ast.Return)]:
                        self.assertFalse(isinstance(use.value, ast.Name) and use.value.id == name, (path, name))

    def stores_set(self, node):
        """Whether a statement keeps a set under a name."""
        if not isinstance(node, ast.Assign) or not isinstance(node.targets[0], ast.Name):
            return False
        value = node.value
        is_call = isinstance(value, ast.Call) and isinstance(value.func, ast.Name) and value.func.id == "set"
        return is_call or isinstance(value, ast.SetComp)

    def test_errors_are_created_where_they_are_raised(self):
        for path, tree in trees():
            for node in ast.walk(tree):
                if isinstance(node, ast.Raise) and node.exc is not None:
                    self.assertIsInstance(node.exc, ast.Call, (path, node.lineno))
                if isinstance(node, ast.ExceptHandler):
                    caught = node.type.elts if isinstance(node.type, ast.Tuple) else [node.type]
                    self.assertFalse({name.id for name in caught} & (BUILTINS - {"KeyError"}), (path, node.lineno))
