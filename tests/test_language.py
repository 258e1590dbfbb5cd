"""The rules of the language that can be read off the files of the package."""

import ast
import builtins
import importlib
import pathlib
import re
import unittest

FOLDER = pathlib.Path(__file__).resolve().parent.parent / "devicewindows"
FILES = sorted(FOLDER.glob("*.py"))

# What the interface of the document lists for each file that is written.
INTERFACE = {
    "errors": ["WindowError", "BadRun", "BadPart", "BadWord", "BadDirection", "BadName", "BadPolicy", "BadPath",
               "BadSetting", "BadEvent", "BadDriver", "NoMapping", "NoDevice", "Busy", "NotTaken", "Full", "TooMany",
               "NoRoom", "NoTable"],
    "runs": ["Run", "segments"],
    "lines": ["Lines"],
    "spaces": ["Space"],
    "settings": ["Book", "Setting"],
    "machine": ["Machine"],
    "playing": ["play", "plain", "first_breach"],
    "drivers": ["look"],
    "experiments": ["experiment"],
    "judging": ["judge", "unsafe"],
    "loads": ["safe_load"],
}

LIBRARY = {
    "heapq": {"heappush", "heappop", "heapify", "heapreplace", "heappushpop"},
    "math": {"gcd", "lcm", "isqrt", "comb", "perm", "factorial"},
    "itertools": {"product", "combinations", "permutations"},
    "__future__": {"annotations"},
}

BUILTINS = set(
    "len range enumerate zip min max sum abs sorted reversed int str bool list tuple dict set isinstance ord repr any"
    " all divmod iter next map super property staticmethod classmethod Exception ValueError TypeError KeyError"
    " IndexError LookupError ZeroDivisionError ArithmeticError OverflowError RuntimeError NotImplementedError"
    " AttributeError StopIteration NotImplemented object".split()
)

METHODS = set(
    "append clear copy count endswith extend find get index insert isalnum isalpha isdigit islower isspace isupper"
    " items join keys ljust lower lstrip partition pop remove replace reverse rfind rjust rpartition rsplit rstrip"
    " setdefault split splitlines startswith strip update upper values zfill bit_length add discard sort".split()
)

OPERATORS = set(
    "__init__ __eq__ __repr__ __str__ __len__ __enter__ __exit__ __call__ __iter__ __lt__ __le__ __gt__ __ge__ __ne__"
    " __add__ __sub__ __mul__ __floordiv__ __mod__ __pow__ __and__ __or__ __xor__ __lshift__ __rshift__ __neg__"
    " __pos__ __invert__ __abs__ __bool__ __contains__ __getitem__ __setitem__".split()
)

BARRED_NODES = (
    ast.Global, ast.AsyncFunctionDef, ast.AsyncFor, ast.AsyncWith, ast.Await, ast.Div, ast.MatMult, ast.Import,
)

BARRED_WORDS = re.compile(
    r"\b(typing|typing_extensions|enum|Enum|IntEnum|StrEnum|Flag|IntFlag|Generic|Protocol|ABC|ABCMeta|namedtuple"
    r"|NamedTuple|TypedDict|TYPE_CHECKING|abstractmethod|_wall|_WallAttr)\b|dataclass|overload|contextmanager"
)

BARRED_NAMES = set(
    "register mro elements open input law version_info with_traceback add_note attrgetter breakpoint builtins compile"
    " copyright credits delattr dir eval exec exit gc getattr globals hasattr help id importlib license locals"
    " methodcaller os quit setattr type vars sys".split()
)


def parsed(path):
    return ast.parse(path.read_text(encoding="utf-8"))


def nodes(kind):
    for path in FILES:
        for node in ast.walk(parsed(path)):
            if isinstance(node, kind):
                yield path, node


def functions():
    return nodes(ast.FunctionDef)


def bound(tree):
    """Every name that a file gives a meaning."""
    names = set()
    for node in ast.walk(tree):
        if isinstance(node, ast.Name) and not isinstance(node.ctx, ast.Load):
            names.add(node.id)
        elif isinstance(node, (ast.FunctionDef, ast.ClassDef)):
            names.add(node.name)
        elif isinstance(node, ast.arg):
            names.add(node.arg)
        elif isinstance(node, ast.alias):
            names.add(node.asname or node.name)
        elif isinstance(node, ast.ExceptHandler) and node.name:
            names.add(node.name)
        elif isinstance(node, (ast.MatchAs, ast.MatchStar)) and node.name:
            names.add(node.name)
    return names


class Files(unittest.TestCase):

    def test_folder(self):
        self.assertIn(FOLDER / "__init__.py", FILES)
        for path in FOLDER.iterdir():
            if path.name != "__pycache__":
                self.assertRegex(path.name, r"^[a-z0-9_]+\.py$")

    def test_size_and_characters(self):
        for path in FILES:
            text = path.read_text(encoding="utf-8")
            with self.subTest(file=path.name):
                self.assertRegex(text, r"^[ -~\n]*$")
                self.assertLessEqual(len(text.splitlines()), 399)
                self.assertLessEqual(max(len(line) for line in text.splitlines()), 120)

    def test_barred_words(self):
        for path in FILES:
            self.assertIsNone(BARRED_WORDS.search(path.read_text(encoding="utf-8")), path.name)

    def test_interface_is_defined_in_its_files(self):
        for name, listed in INTERFACE.items():
            defined = {node.name for node in parsed(FOLDER / f"{name}.py").body
                       if isinstance(node, (ast.FunctionDef, ast.ClassDef))}
            self.assertLessEqual(set(listed), defined)
            module = importlib.import_module(f"devicewindows.{name}")
            for word in listed:
                self.assertEqual(getattr(module, word).__module__, f"devicewindows.{name}")

    def test_module_level(self):
        for path in FILES:
            for node in parsed(path).body[1:]:
                self.assertIsInstance(node, (ast.ImportFrom, ast.FunctionDef, ast.ClassDef, ast.Assign), path.name)


class Code(unittest.TestCase):

    def test_imports(self):
        for path, node in nodes(ast.ImportFrom):
            for alias in node.names:
                with self.subTest(file=path.name, name=alias.name):
                    if node.module in LIBRARY:
                        self.assertIn(alias.name, LIBRARY[node.module])
                    else:
                        self.assertRegex(node.module, r"^devicewindows\.[a-z_]+$")
                        self.assertEqual(node.level, 0)
                        owner = importlib.import_module(node.module)
                        self.assertEqual(getattr(getattr(owner, alias.name), "__module__", node.module), node.module)

    def test_functions_are_short(self):
        for path, node in functions():
            self.assertLessEqual(node.end_lineno - node.lineno + 1, 40, (path.name, node.name))

    def test_double_underscore_methods(self):
        for path, node in functions():
            if node.name.startswith("__"):
                self.assertIn(node.name, OPERATORS, path.name)

    def test_decorators(self):
        for path, node in functions():
            for decorator in node.decorator_list:
                self.assertRegex(ast.unparse(decorator), r"^(property|staticmethod|classmethod|\w+\.setter)$")

    def test_barred_syntax(self):
        for path, node in nodes(BARRED_NODES):
            self.fail((path.name, ast.unparse(node)))
        for path, node in nodes(ast.Constant):
            self.assertNotIsInstance(node.value, (float, complex))
            if isinstance(node.value, str):
                self.assertNotIn("%", node.value, path.name)

    def test_builtins(self):
        for path in FILES:
            tree = parsed(path)
            known = bound(tree)
            self.assertEqual(known & set(dir(builtins)), set(), path.name)
            self.assertEqual(known & BARRED_NAMES, set(), path.name)
            used = {node.id for node in ast.walk(tree) if isinstance(node, ast.Name)}
            self.assertLessEqual(used - known, BUILTINS, path.name)

    def test_methods(self):
        own = {node.name for _, node in functions()}
        for path, node in nodes(ast.Call):
            if isinstance(node.func, ast.Attribute) and not node.func.attr.startswith("__"):
                self.assertIn(node.func.attr, METHODS | own, path.name)

    def test_generators_keep_their_names_to_themselves(self):
        names = [node.name for _, node in functions()]
        for path, node in functions():
            if any(isinstance(part, (ast.Yield, ast.YieldFrom)) for part in ast.walk(node)):
                self.assertEqual(names.count(node.name), 1, (path.name, node.name))

    def test_generators_are_iterated_at_once(self):
        names = {node.name for _, node in functions()
                 if any(isinstance(part, (ast.Yield, ast.YieldFrom)) for part in ast.walk(node))}
        for path in FILES:
            tree = parsed(path)
            iterated = [node.iter for node in ast.walk(tree) if isinstance(node, (ast.For, ast.comprehension))]
            iterated += [node.args[0] for node in ast.walk(tree) if isinstance(node, ast.Call) and node.args
                         and ast.unparse(node.func) in ("list", "tuple", "sorted", "enumerate", "zip")]
            for node in ast.walk(tree):
                if isinstance(node, ast.Call) and isinstance(node.func, ast.Attribute) and node.func.attr in names:
                    self.assertIn(node, iterated, (path.name, ast.unparse(node)))

    def test_views_are_iterated_at_once(self):
        for path in FILES:
            tree = parsed(path)
            iterated = [node.iter for node in ast.walk(tree) if isinstance(node, (ast.For, ast.comprehension))]
            iterated += [node.args[0] for node in ast.walk(tree) if isinstance(node, ast.Call) and node.args
                         and ast.unparse(node.func) in ("list", "tuple", "sorted", "sum", "dict")]
            for node in ast.walk(tree):
                if isinstance(node, ast.Call) and (ast.unparse(node.func) in ("zip", "enumerate", "reversed") or (
                        isinstance(node.func, ast.Attribute) and node.func.attr in ("items", "keys", "values"))):
                    self.assertIn(node, iterated, (path.name, ast.unparse(node)))

    def test_no_generator_expressions(self):
        # Some class has __eq__, so that any, all, sum, min, max and sorted take lists.
        for path, node in nodes(ast.GeneratorExp):
            self.fail((path.name, ast.unparse(node)))

    def test_exit_only_assigns(self):
        for path, node in functions():
            if node.name == "__exit__":
                for row in node.body:
                    self.assertIsInstance(row, ast.Assign, path.name)
                    self.assertIsInstance(row.value, ast.Constant, path.name)

    def test_operators_and_properties_assign_nothing(self):
        for path, node in functions():
            operator = node.name.startswith("__") and node.name not in ("__init__", "__enter__", "__exit__")
            if operator or "property" in [ast.unparse(decorator) for decorator in node.decorator_list]:
                for part in ast.walk(node):
                    if isinstance(part, (ast.Attribute, ast.Subscript)):
                        self.assertIsInstance(part.ctx, ast.Load, (path.name, node.name))

    def test_no_name_is_a_method_and_an_attribute(self):
        for path, node in nodes(ast.ClassDef):
            methods = {row.name for row in node.body if isinstance(row, ast.FunctionDef)}
            attributes = {part.attr for part in ast.walk(node)
                          if isinstance(part, ast.Attribute) and isinstance(part.ctx, ast.Store)}
            self.assertEqual(methods & attributes, set(), (path.name, node.name))

    def test_names_of_properties_mean_nothing_else(self):
        properties = {node.name for _, node in functions()
                      if "property" in [ast.unparse(decorator) for decorator in node.decorator_list]}
        for path, node in functions():
            if "property" not in [ast.unparse(decorator) for decorator in node.decorator_list]:
                self.assertNotIn(node.name, properties, path.name)
        for path, node in nodes(ast.Attribute):
            if not isinstance(node.ctx, ast.Load):
                self.assertNotIn(node.attr, properties, path.name)

    def test_no_import_cycles(self):
        needs = {path.stem: {node.module.split(".")[1] for node in ast.walk(parsed(path))
                             if isinstance(node, ast.ImportFrom) and node.module.startswith("devicewindows.")}
                 for path in FILES}
        while needs:
            ready = [name for name in needs if not needs[name] & set(needs)]
            self.assertNotEqual(ready, [], sorted(needs))
            for name in ready:
                del needs[name]

    def test_is(self):
        for path, node in nodes(ast.Compare):
            for sign, right in zip(node.ops, node.comparators, strict=True):
                if isinstance(sign, (ast.Is, ast.IsNot)):
                    self.assertIn(ast.unparse(right), ("None", "True", "False"), path.name)

    def test_caught_errors(self):
        barred = {"Exception", "TypeError", "ArithmeticError", "OverflowError", "RuntimeError", "NotImplementedError",
                  "AttributeError"}
        for path, node in nodes(ast.ExceptHandler):
            self.assertIsNotNone(node.type, path.name)
            caught = {name.id for name in ast.walk(node.type) if isinstance(name, ast.Name)}
            self.assertEqual(caught & barred, set(), path.name)


if __name__ == "__main__":
    unittest.main()
