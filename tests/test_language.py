"""The form of the code: what of shared/LANGUAGE.md a look at the files can show, here and there told more narrowly."""

import ast
import builtins
import pathlib
import unittest

PACKAGE = pathlib.Path(__file__).parent.parent / "cutorclose"
FILES = sorted(PACKAGE.glob("*.py"))
TREES = {path.stem: ast.parse(path.read_text()) for path in FILES}

BUILTINS = set("""len range enumerate zip min max sum abs sorted reversed int str bool list tuple dict set isinstance
    ord repr any all divmod iter next map Exception ValueError TypeError KeyError IndexError LookupError NotImplemented
    property staticmethod classmethod super""".split())
METHODS = set("""append clear copy count endswith extend find get index insert isalnum isalpha isdigit islower isspace
    isupper items join keys ljust lower lstrip partition pop remove replace reverse rfind rjust rpartition rsplit rstrip
    setdefault split splitlines startswith strip update upper values zfill bit_length isascii isdecimal""".split())
DUNDERS = set("""init eq repr str len call iter add sub mul and or xor neg pos invert abs bool contains getitem
    setitem lt le gt ge ne""".split())
LIBRARY = {"math": {"gcd", "lcm", "isqrt", "comb", "perm", "factorial"},
           "heapq": {"heappush", "heappop", "heapify", "heapreplace", "heappushpop"}}
BARRED = set("""register mro elements open input law version_info with_traceback add_note attrgetter breakpoint builtins
    compile copyright credits delattr dir eval exec exit gc getattr globals hasattr help id importlib license locals
    methodcaller os quit setattr type vars sys typing enum Enum Generic Protocol namedtuple dataclass""".split())
CHANGING = set("append clear extend insert pop remove reverse setdefault update sort add discard".split())
AT_ONCE = {"zip", "enumerate", "reversed", "map"}
TAKES_AT_ONCE = {"list", "tuple", "dict", "sorted", "sum", "any", "all", "min", "max", "enumerate", "zip"}
# A doctest in the same run leaves its last result as the builtin _, which is a free name here.
TAKEN = set(dir(builtins)) - {"_"}
FUNCTION = (ast.FunctionDef, ast.AsyncFunctionDef, ast.Lambda)


def nodes(kind):
    """All nodes of a kind with the name of their file."""
    return [(name, node) for name, tree in TREES.items() for node in ast.walk(tree) if isinstance(node, kind)]


def defined(tree):
    """The names that a file defines itself."""
    names = [node.name for node in tree.body if isinstance(node, (ast.FunctionDef, ast.ClassDef))]
    return names + [node.targets[0].id for node in tree.body if isinstance(node, ast.Assign)]


def imported(tree):
    return [alias.name for node in tree.body if isinstance(node, ast.ImportFrom) for alias in node.names]


def bound_in(function):
    """Parameters and local variables of a function."""
    args = function.args
    names = [arg.arg for arg in args.posonlyargs + args.args + args.kwonlyargs + [args.vararg, args.kwarg] if arg]
    return names + [node.id for node in ast.walk(function) if isinstance(node, ast.Name) and isinstance(node.ctx, ast.Store)]


def own_methods():
    return {item.name for _, node in nodes(ast.ClassDef) for item in node.body if isinstance(item, ast.FunctionDef)}


def is_called(node, names):
    return isinstance(node, ast.Call) and isinstance(node.func, ast.Name) and node.func.id in names


def creates(value):
    """Whether the value is a list or dict that is made where it stands."""
    return isinstance(value, (ast.List, ast.Dict, ast.ListComp)) or is_called(value, {"list", "dict", "sorted"})


class Files(unittest.TestCase):
    def test_characters_lines_and_names(self):
        self.assertLessEqual(len(FILES), 100)
        for path in PACKAGE.iterdir():
            self.assertTrue(path.suffix == ".py" or path.name == "__pycache__", path)
        for path in FILES:
            text = path.read_text()
            self.assertEqual(path.name, path.name.lower())
            self.assertTrue(all(c == "\n" or " " <= c <= "~" for c in text), path)
            self.assertLessEqual(len(text.splitlines()), 399, path)
            self.assertLessEqual(max(map(len, text.splitlines())), 120, path)

    def test_functions_are_short(self):
        for name, node in nodes(ast.FunctionDef):
            self.assertLessEqual(node.end_lineno - node.lineno + 1, 40, (name, node.name))

    def test_imports(self):
        for name, node in nodes((ast.Import, ast.ImportFrom)):
            self.assertIsInstance(node, ast.ImportFrom, name)
            self.assertTrue(all(alias.asname is None for alias in node.names), name)
            if node.module in LIBRARY:
                self.assertLessEqual({alias.name for alias in node.names}, LIBRARY[node.module])
                continue
            package, module = node.module.split(".")
            self.assertEqual(package, "cutorclose")
            for alias in node.names:
                self.assertIn(alias.name, defined(TREES[module]), name)

    def test_imports_are_used(self):
        for name, tree in TREES.items():
            read = {node.id for node in ast.walk(tree) if isinstance(node, ast.Name)}
            self.assertEqual([each for each in imported(tree) if each not in read], [], name)

    def test_no_files_import_each_other(self):
        ahead = {name: [node.module.split(".")[1] for node in tree.body
                        if isinstance(node, ast.ImportFrom) and node.module.startswith("cutorclose.")]
                 for name, tree in TREES.items()}
        while ahead:
            done = [name for name in ahead if not any(other in ahead for other in ahead[name])]
            self.assertTrue(done, ahead)
            for name in done:
                del ahead[name]

    def test_module_level(self):
        for name, tree in TREES.items():
            self.assertIsNotNone(ast.get_docstring(tree), name)
            for node in tree.body[1:]:
                self.assertIsInstance(node, (ast.ImportFrom, ast.FunctionDef, ast.ClassDef, ast.Assign), name)
            names = defined(tree) + imported(tree)
            self.assertEqual(len(names), len(set(names)), name)


class Names(unittest.TestCase):
    def test_bound_names_have_one_meaning(self):
        for name, function in nodes(FUNCTION):
            tree = TREES[name]
            classes = [node.name for node in tree.body if isinstance(node, ast.ClassDef)]
            for bound in bound_in(function):
                self.assertNotIn(bound, imported(tree) + classes, name)
                self.assertNotIn(bound, TAKEN, name)
                self.assertNotIn(bound, BARRED, name)

    def test_functions_and_classes(self):
        for name, node in nodes((ast.FunctionDef, ast.ClassDef)):
            self.assertNotIn(node.name, BARRED, name)
            if not node.name.startswith("__"):
                self.assertNotIn(node.name, TAKEN, name)

    def test_only_known_names_are_read(self):
        for name, tree in TREES.items():
            known = set(defined(tree)) | set(imported(tree)) | BUILTINS
            for _, function in [each for each in nodes(FUNCTION) if each[0] == name]:
                known |= set(bound_in(function))
                known |= {node.name for node in ast.walk(function) if isinstance(node, ast.ExceptHandler)}
            for node in ast.walk(tree):
                if isinstance(node, ast.Name) and isinstance(node.ctx, ast.Load):
                    self.assertIn(node.id, known, name)

    def test_methods_that_are_called(self):
        own = own_methods()
        for name, node in nodes(ast.Call):
            if isinstance(node.func, ast.Attribute):
                self.assertIn(node.func.attr, METHODS | own, name)

    def test_own_methods(self):
        taken = {each for kind in (str, int, list, tuple, dict, set, bytes) for each in dir(kind)}
        for method in own_methods():
            if method.startswith("__"):
                self.assertIn(method.strip("_"), DUNDERS)
            else:
                self.assertNotIn(method, taken)

    def test_attributes_are_no_methods(self):
        stored = {node.attr for _, node in nodes(ast.Attribute) if isinstance(node.ctx, ast.Store)}
        self.assertEqual(stored & own_methods(), set())


class Code(unittest.TestCase):
    def test_nothing_barred(self):
        kinds = (ast.Global, ast.AsyncFunctionDef, ast.Await, ast.Div, ast.GeneratorExp, ast.Set, ast.SetComp, ast.TryStar,
                 ast.Delete, ast.Lambda, ast.NamedExpr)
        self.assertEqual(nodes(kinds), [])

    def test_only_own_errors_are_caught(self):
        own = defined(TREES["errors"])
        for name, node in nodes(ast.Try):
            self.assertEqual((node.orelse, node.finalbody), ([], []), name)
            for handler in node.handlers:
                self.assertIn(handler.type.id, own, name)

    def test_literals(self):
        for name, node in nodes(ast.Constant):
            self.assertNotIsInstance(node.value, (float, complex), name)
            if isinstance(node.value, str):
                self.assertNotIn("%", node.value, name)
                self.assertFalse(node.value.startswith("__"), name)

    def test_powers_are_literal(self):
        for name, node in nodes(ast.BinOp):
            if isinstance(node.op, ast.Pow):
                self.assertIsInstance(node.right, ast.Constant, name)

    def test_decorators(self):
        for name, node in nodes((ast.FunctionDef, ast.ClassDef)):
            for mark in node.decorator_list:
                self.assertIn(mark.id, ("property", "classmethod", "staticmethod"), name)

    def test_is(self):
        for name, node in nodes(ast.Compare):
            for sign, other in zip(node.ops, node.comparators):
                if isinstance(sign, (ast.Is, ast.IsNot)):
                    self.assertIsInstance(other, ast.Constant, name)

    def test_in_place_signs(self):
        for name, node in nodes(ast.AugAssign):
            self.assertIsInstance(node.value, ast.Constant, name)

    def test_iterated_at_once(self):
        for name, tree in TREES.items():
            fine = set()
            for node in ast.walk(tree):
                if isinstance(node, (ast.For, ast.comprehension)):
                    fine.add(id(node.iter))
                if is_called(node, TAKES_AT_ONCE):
                    fine |= {id(arg) for arg in node.args}
            for node in ast.walk(tree):
                if is_called(node, AT_ONCE):
                    self.assertIn(id(node), fine, (name, node.lineno))

    def test_only_own_lists_are_changed(self):
        for name, function in nodes(ast.FunctionDef):
            made = {}
            for node in ast.walk(function):
                if isinstance(node, ast.Assign) and isinstance(node.targets[0], ast.Name):
                    made.setdefault(node.targets[0].id, []).append(creates(node.value))
            for node in ast.walk(function):
                changed = None
                if isinstance(node, ast.Call) and isinstance(node.func, ast.Attribute) and node.func.attr in CHANGING:
                    changed = node.func.value
                if isinstance(node, ast.Subscript) and isinstance(node.ctx, ast.Store):
                    changed = node.value
                if changed is not None:
                    self.assertIsInstance(changed, ast.Name, name)
                    self.assertTrue(all(made.get(changed.id, [False])), (name, function.name, changed.id))

    def test_attributes_are_set_on_creation_only(self):
        # But for the two classes that change by their methods; what is only asked changes nothing there, either.
        asks = {"barred", "tried", "tally", "log", "counts"}
        for name, owner in nodes(ast.ClassDef):
            for function in [item for item in owner.body if isinstance(item, ast.FunctionDef)]:
                asked = function.name in asks or function.name.startswith("__") or function.decorator_list
                sets = function.name == "__init__" or (owner.name in ("LiveBook", "Desk") and not asked)
                for node in ast.walk(function):
                    if isinstance(node, ast.Attribute) and isinstance(node.ctx, ast.Store):
                        self.assertEqual((sets, node.value.id), (True, "self"), name)

    def test_attributes_are_set_in_classes_only(self):
        for name, tree in TREES.items():
            for function in [item for item in tree.body if isinstance(item, ast.FunctionDef)]:
                for node in ast.walk(function):
                    self.assertFalse(isinstance(node, ast.Attribute) and isinstance(node.ctx, ast.Store), name)


if __name__ == "__main__":
    unittest.main()
