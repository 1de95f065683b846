"""Checks that the package keeps to the subset of Python in which it is written."""

import ast
import builtins
import os
import re
import unittest

ROOT = os.path.dirname(os.path.dirname(os.path.abspath(__file__)))
PACKAGE = os.path.join(ROOT, "wherebase")

ALLOWED_BUILTINS = set(
    "len range enumerate zip min max sum abs sorted reversed int str bool list tuple dict set isinstance ord repr "
    "any all divmod property staticmethod classmethod super iter next map getattr hasattr NotImplemented Exception "
    "ValueError TypeError KeyError IndexError LookupError ZeroDivisionError ArithmeticError OverflowError "
    "RuntimeError NotImplementedError StopIteration".split()
)
BUILTIN_METHODS = set(
    "append clear copy count endswith extend find get index insert isalnum isalpha isdigit islower isspace isupper "
    "items join keys ljust lower lstrip partition pop remove replace reverse rfind rjust rpartition rsplit rstrip "
    "setdefault split splitlines startswith strip update upper values zfill bit_length add discard".split()
)
BARRED_NAMES = set(
    "register mro elements open input law version_info with_traceback add_note attrgetter breakpoint compile "
    "copyright credits delattr dir eval exec exit gc globals help id importlib license locals methodcaller os quit "
    "setattr vars sys".split()
)
BARRED_WORDS = re.compile(
    r"\b(type|typing|typing_extensions|enum|Enum|IntEnum|StrEnum|Flag|IntFlag|Generic|Protocol|ABC|ABCMeta|"
    r"namedtuple|NamedTuple|TypedDict|TYPE_CHECKING|abstractmethod)\b|dataclass|overload|contextmanager"
)
BARRED_STARTS = re.compile(
    r"_(wall|pe_|dcw_|enum_|cm_|twin_re_|lay_|law_|stub_|sre|WallAttr)|"
    r"(_cold|_tuplegetter|_outside|_record|_written_out|_member_names)[0-9_]*$"
)
LIBRARY = {"math": {"gcd", "lcm", "isqrt"}}
ITERATED = {"zip", "enumerate", "reversed", "range", "map"}
TAKERS = {"list", "tuple", "dict", "sorted", "sum", "any", "all", "enumerate", "zip", "min", "max", "len"}
BARRED_NODES = (
    ast.Global, ast.Nonlocal, ast.AsyncFunctionDef, ast.Await, ast.GeneratorExp, ast.Try, ast.Lambda,
    ast.Div, ast.MatMult, ast.Import, ast.With, ast.Yield, ast.YieldFrom, ast.AnnAssign,
)


def sources():
    found = []
    for folder, _, names in sorted(os.walk(PACKAGE)):
        if os.path.basename(folder) == "__pycache__":
            continue
        for name in sorted(names):
            found.append(os.path.join(folder, name))
    return found


def module_of(path):
    name = os.path.relpath(path, ROOT)[:-3].replace(os.sep, ".")
    return name[: -len(".__init__")] if name.endswith(".__init__") else name


class LanguageTest(unittest.TestCase):
    @classmethod
    def setUpClass(cls):
        cls.texts = {}
        for path in sources():
            with open(path, encoding="utf-8") as file:
                cls.texts[path] = file.read()
        cls.trees = {path: ast.parse(text) for path, text in cls.texts.items()}
        cls.modules = {module_of(path): tree for path, tree in cls.trees.items()}

    def nodes(self, *kinds):
        for path, tree in self.trees.items():
            for node in ast.walk(tree):
                if isinstance(node, kinds):
                    yield f"{os.path.relpath(path, ROOT)}:{getattr(node, 'lineno', 0)}", node

    def test_files(self):
        self.assertLessEqual(len(self.texts), 100)
        for path, text in self.texts.items():
            name = os.path.basename(path)
            self.assertRegex(name, r"^[a-z0-9_]+\.py$")
            self.assertTrue(os.path.exists(os.path.join(os.path.dirname(path), "__init__.py")), path)
            self.assertFalse(os.path.isdir(path[:-3]), path)
            self.assertEqual([c for c in text if c != "\n" and not " " <= c <= "~"], [], path)
            self.assertLessEqual(len(text.splitlines()), 399, path)
            self.assertLessEqual(max([len(row) for row in text.splitlines()], default=0), 120, path)

    def test_functions_are_short(self):
        for where, node in self.nodes(ast.FunctionDef):
            self.assertLessEqual(node.end_lineno - node.lineno + 1, 40, where)

    def test_statements(self):
        for where, node in self.nodes(*BARRED_NODES):
            self.fail(f"{where}: {node.__class__.__name__}")
        for where, node in self.nodes(ast.Constant):
            self.assertNotIsInstance(node.value, (float, complex), where)
            if isinstance(node.value, str):
                self.assertNotIn("%", node.value, where)
        for where, node in self.nodes(ast.FunctionDef):
            for decorator in node.decorator_list:
                self.assertIsInstance(decorator, ast.Name, where)
                self.assertIn(decorator.id, ("property", "staticmethod", "classmethod"), where)

    def test_module_level(self):
        for path, tree in self.trees.items():
            for index, node in enumerate(tree.body):
                if isinstance(node, (ast.ImportFrom, ast.FunctionDef, ast.ClassDef)):
                    continue
                if isinstance(node, ast.Expr) and index == 0 and isinstance(node.value, ast.Constant):
                    continue
                self.assertIsInstance(node, ast.Assign, path)
                self.assertEqual(len(node.targets), 1, path)
                ast.literal_eval(node.value)

    def test_imports(self):
        reached = {}
        for name, tree in self.modules.items():
            reached[name] = set()
            for node in tree.body:
                if not isinstance(node, ast.ImportFrom):
                    continue
                self.assertEqual(node.level, 0, name)
                for alias in node.names:
                    self.assertIsNone(alias.asname, name)
                    if node.module in LIBRARY:
                        self.assertIn(alias.name, LIBRARY[node.module], name)
                        continue
                    self.assertIn(node.module, self.modules, name)
                    reached[name].add(node.module)
                    defined = [
                        part.name if isinstance(part, (ast.FunctionDef, ast.ClassDef)) else part.targets[0].id
                        for part in self.modules[node.module].body
                        if isinstance(part, (ast.FunctionDef, ast.ClassDef, ast.Assign))
                    ]
                    self.assertIn(alias.name, defined, name)
        for _ in reached:
            for name in reached:
                for other in list(reached[name]):
                    reached[name] |= reached[other]
        for name in reached:
            self.assertNotIn(name, reached[name], "a circle of imports")

    def test_imports_are_used(self):
        for name, tree in self.modules.items():
            used = {node.id for node in ast.walk(tree) if isinstance(node, ast.Name)}
            for node in tree.body:
                if isinstance(node, ast.ImportFrom):
                    for alias in node.names:
                        self.assertIn(alias.name, used, name)

    def test_names(self):
        for path, tree in self.trees.items():
            taken = set()
            for node in tree.body:
                if isinstance(node, ast.ImportFrom):
                    taken |= {alias.name for alias in node.names}
                if isinstance(node, ast.ClassDef):
                    taken.add(node.name)
            bound = [node.arg for node in ast.walk(tree) if isinstance(node, ast.arg)]
            bound += [node.id for node in ast.walk(tree) if isinstance(node, ast.Name) and isinstance(node.ctx, ast.Store)]
            for name in bound:
                self.assertNotIn(name, taken, path)
            bound += [node.name for node in tree.body if isinstance(node, (ast.FunctionDef, ast.ClassDef))]
            for name in bound:
                self.assertFalse(hasattr(builtins, name) and name != "_", f"{path}: {name}")
            for name in bound + [node.attr for node in ast.walk(tree) if isinstance(node, ast.Attribute)]:
                self.assertNotIn(name, BARRED_NAMES, path)
                self.assertIsNone(BARRED_STARTS.match(name), f"{path}: {name}")
            loaded = [node.id for node in ast.walk(tree) if isinstance(node, ast.Name) and isinstance(node.ctx, ast.Load)]
            for name in loaded:
                self.assertNotEqual(name, "_", path)
                if hasattr(builtins, name):
                    self.assertIn(name, ALLOWED_BUILTINS, path)

    def test_words(self):
        for path, text in self.texts.items():
            tree = self.trees[path]
            spans = []
            for node in ast.walk(tree):
                if isinstance(node, (ast.Module, ast.FunctionDef, ast.ClassDef)) and ast.get_docstring(node) is not None:
                    spans.append((node.body[0].lineno, node.body[0].end_lineno))
            for number, row in enumerate(text.splitlines(), 1):
                self.assertNotIn("_wall", row, path)
                if not any(low <= number <= high for low, high in spans):
                    self.assertIsNone(BARRED_WORDS.search(row.split("#")[0]), f"{path}:{number}")

    def test_attributes(self):
        own, assigned, properties, of_classes = set(), set(), set(), set()
        for _, node in self.nodes(ast.ClassDef):
            for part in node.body:
                if isinstance(part, ast.FunctionDef):
                    is_property = any(name.id == "property" for name in part.decorator_list)
                    is_of_class = part.decorator_list != [] and not is_property
                    (properties if is_property else of_classes if is_of_class else own).add(part.name)
        self.assertEqual(of_classes & own, set())
        own |= of_classes
        for where, node in self.nodes(ast.Attribute):
            if isinstance(node.ctx, ast.Store):
                assigned.add(node.attr)
                self.assertNotIn(node.attr, properties | own, where)
        self.assertEqual(properties & own, set())
        for where, node in self.nodes(ast.Attribute):
            self.assertIn(node.attr, own | assigned | properties | BUILTIN_METHODS, where)
        for where, node in self.nodes(ast.Call):
            if isinstance(node.func, ast.Attribute):
                self.assertIn(node.func.attr, own | BUILTIN_METHODS, where)

    def test_iterated_at_once(self):
        for path, tree in self.trees.items():
            parents = {}
            for node in ast.walk(tree):
                for child in ast.iter_child_nodes(node):
                    parents[child] = node
            for node in ast.walk(tree):
                if not isinstance(node, (ast.Call, ast.SetComp)):
                    continue
                where = f"{path}:{node.lineno}"
                parent = parents[node]
                if isinstance(node, ast.SetComp) or isinstance(node.func, ast.Name) and node.func.id == "set":
                    self.assertTrue(isinstance(parent, ast.Call) and parent.func.id in ("sorted", "len"), where)
                    continue
                if isinstance(node.func, ast.Name) and node.func.id == "iter":
                    self.assertEqual(ast.unparse(parent), f"return iter(self.{node.args[0].attr})", where)
                if any(isinstance(value, ast.Starred) for value in node.args):
                    self.check_stars(node, where)
                is_view = isinstance(node.func, ast.Attribute) and node.func.attr in ("items", "keys", "values")
                if is_view or isinstance(node.func, ast.Name) and node.func.id in ITERATED:
                    is_looped = isinstance(parent, (ast.For, ast.comprehension)) and parent.iter is node
                    is_taken = (
                        isinstance(parent, ast.Call) and isinstance(parent.func, ast.Name) and parent.func.id in TAKERS
                    )
                    self.assertTrue(is_looped or is_taken, where)

    def check_stars(self, node, where):
        # of own functions and methods alone
        self.assertIsInstance(node.func, (ast.Name, ast.Attribute), where)
        if isinstance(node.func, ast.Name):
            self.assertFalse(hasattr(builtins, node.func.id), where)
        for value in node.args:
            if isinstance(value, ast.Starred):
                self.assertIsInstance(value.value, ast.Name, where)
            else:
                self.assertIsInstance(value, (ast.Name, ast.Attribute), where)

    def test_calls_of_builtins(self):
        for where, node in self.nodes(ast.Call):
            self.assertFalse(isinstance(node.func, ast.Attribute) and node.func.attr == "sort", where)
            if isinstance(node.func, ast.Name) and hasattr(builtins, node.func.id):
                allowed = {"sorted": {"key", "reverse"}, "min": {"key", "default"}, "max": {"key", "default"}}
                allowed.update({"sum": {"start"}, "enumerate": {"start"}, "zip": {"strict"}})
                for keyword in node.keywords:
                    self.assertIn(keyword.arg, allowed.get(node.func.id, set()), where)

    def test_raised_errors_are_made_on_the_spot(self):
        for where, node in self.nodes(ast.Raise):
            self.assertIsInstance(node.exc, ast.Call, where)
            self.assertIsInstance(node.exc.func, ast.Name, where)


if __name__ == "__main__":
    unittest.main()
