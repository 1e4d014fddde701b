"""Rules of LANGUAGE.md that a test can see easily, for each file of the package."""

import ast
import builtins
import pathlib
import re
import unittest

PACKAGE = pathlib.Path(__file__).resolve().parent.parent / "lookscan"
FILES = sorted(PACKAGE.rglob("*.py"))
TREES = {path: ast.parse(path.read_text()) for path in FILES}
BUILTINS = """len range enumerate zip min max sum abs sorted reversed int str bool bytes list tuple dict set frozenset
    isinstance ord repr any all divmod Exception ValueError TypeError KeyError IndexError LookupError
    ZeroDivisionError ArithmeticError OverflowError RuntimeError NotImplementedError AttributeError StopIteration
    NotImplemented iter next property staticmethod classmethod super object""".split()
BARRED = """register mro elements open input law version_info with_traceback add_note attrgetter breakpoint builtins
    compile copyright credits delattr dir eval exec exit gc getattr globals hasattr help id importlib license locals
    methodcaller os quit setattr type vars sys format format_map""".split()
BARRED_WORDS = """type typing typing_extensions enum Enum IntEnum StrEnum Flag IntFlag Generic Protocol ABC ABCMeta
    namedtuple NamedTuple TypedDict TYPE_CHECKING abstractmethod""".split()
METHODS = """append clear copy count endswith extend find get index insert isalnum isalpha isdigit islower isspace isupper
    items join keys ljust lower lstrip partition pop remove replace reverse rfind rjust rpartition rsplit rstrip
    setdefault split splitlines startswith strip update upper values zfill bit_length add discard""".split()
LAZY = ["zip", "enumerate", "reversed", "range"]
DUNDERS = """__init__ __eq__ __repr__ __str__ __len__ __enter__ __exit__ __call__ __iter__ __contains__""".split()
# Of Python's own errors, those that may be caught around anything.
CAUGHT = ["KeyError", "ZeroDivisionError", "StopIteration"]
KEYWORDS = {"sorted": ["key", "reverse"], "min": ["key", "default"], "max": ["key", "default"], "sum": ["start"],
            "enumerate": ["start"], "zip": ["strict"]}
STATEMENTS = (ast.Global, ast.AsyncFunctionDef, ast.AsyncFor, ast.AsyncWith, ast.Await, ast.Import)


def names_bound(tree):
    """All names that a file gives to functions, classes, parameters, variables and attributes."""
    for node in ast.walk(tree):
        if isinstance(node, (ast.FunctionDef, ast.ClassDef)):
            yield node.name
        elif isinstance(node, ast.arg):
            yield node.arg
        elif isinstance(node, ast.Name) and isinstance(node.ctx, ast.Store):
            yield node.id
        elif isinstance(node, ast.Attribute):
            yield node.attr


class LanguageTest(unittest.TestCase):
    def test_files(self):
        self.assertIn("errors.py", [path.name for path in FILES])
        for path in PACKAGE.rglob("*"):
            if "__pycache__" not in path.parts:
                self.assertRegex(path.name, r"^[a-z0-9_]+\.py$")

    def test_sizes_and_characters(self):
        for path in FILES:
            text = path.read_text()
            lines = text.split("\n")
            self.assertLessEqual(len(lines) - 1, 399, path)
            self.assertLessEqual(max(len(line) for line in lines), 120, path)
            self.assertRegex(text, r"\A[ -~\n]*\Z", str(path))
            for node in ast.walk(TREES[path]):
                if isinstance(node, ast.FunctionDef):
                    self.assertLessEqual(node.end_lineno - node.lineno + 1, 40, node.name)

    def test_words(self):
        for path in FILES:
            text = path.read_text()
            for word in BARRED_WORDS:
                self.assertIsNone(re.search(rf"\b{word}\b", text), (path, word))
            for word in ["dataclass", "overload", "contextmanager"]:
                self.assertNotIn(word, text)

    def test_names(self):
        for path, tree in TREES.items():
            for name in names_bound(tree):
                self.assertNotIn(name, BARRED, path)
                if not (name.startswith("__") and name.endswith("__")):
                    self.assertFalse(name.startswith("_"), (path, name))

    def test_no_name_of_a_builtin_or_an_import_is_bound_again(self):
        for path, tree in TREES.items():
            imported = [alias.name for node in tree.body if isinstance(node, ast.ImportFrom) for alias in node.names]
            for node in ast.walk(tree):
                names = [node.name] if isinstance(node, (ast.FunctionDef, ast.ClassDef)) else []
                names += [node.arg] if isinstance(node, ast.arg) else []
                names += [node.id] if isinstance(node, ast.Name) and isinstance(node.ctx, ast.Store) else []
                for name in names:
                    self.assertFalse(hasattr(builtins, name) and not name.startswith("__"), (path, name))
                    self.assertNotIn(name, imported, path)

    def test_builtins(self):
        for path, tree in TREES.items():
            for node in ast.walk(tree):
                if isinstance(node, ast.Name) and hasattr(builtins, node.id):
                    self.assertIn(node.id, BUILTINS, path)

    def test_imports(self):
        for path, tree in TREES.items():
            for node in ast.walk(tree):
                self.assertNotIsInstance(node, STATEMENTS, path)
                if isinstance(node, ast.ImportFrom):
                    self.assertIn(node, tree.body, path)
                    self.assertTrue(node.module.startswith("lookscan."), path)
                    self.assertEqual(node.level, 0)
                    self.assertNotIn("*", [alias.name for alias in node.names])

    def test_module_level(self):
        allowed = (ast.ImportFrom, ast.FunctionDef, ast.ClassDef, ast.Assign)
        for path, tree in TREES.items():
            self.assertIsNotNone(ast.get_docstring(tree), path)
            for node in tree.body[1:]:
                self.assertIsInstance(node, allowed, path)

    def test_values(self):
        barred = (ast.Div, ast.Set, ast.GeneratorExp)
        for path, tree in TREES.items():
            for node in ast.walk(tree):
                self.assertNotIsInstance(node, barred, (path, getattr(node, "lineno", None)))
                if isinstance(node, ast.Constant):
                    self.assertNotIsInstance(node.value, float, path)
                    self.assertNotIn("%", node.value if isinstance(node.value, str) else "", path)

    def test_no_name_is_a_method_and_an_attribute(self):
        methods, attributes = [], []
        for tree in TREES.values():
            for node in ast.walk(tree):
                if isinstance(node, ast.ClassDef):
                    methods += [inner.name for inner in node.body if isinstance(inner, ast.FunctionDef)
                                and not inner.decorator_list]
                if isinstance(node, ast.Attribute) and isinstance(node.ctx, ast.Store):
                    attributes.append(node.attr)
        self.assertEqual(set(methods) & set(attributes), set())

    def test_is(self):
        for path, tree in TREES.items():
            for node in ast.walk(tree):
                if isinstance(node, ast.Compare):
                    for sign, right in zip(node.ops, node.comparators):
                        if isinstance(sign, (ast.Is, ast.IsNot)):
                            self.assertIsInstance(right, ast.Constant, (path, node.lineno))
                            self.assertIn(right.value, (None, True, False), (path, node.lineno))

    def test_iterated_at_once(self):
        for path, tree in TREES.items():
            for node in ast.walk(tree):
                if isinstance(node, (ast.Assign, ast.Return)) and isinstance(node.value, ast.Call):
                    called = node.value.func
                    self.assertNotIn(getattr(called, "id", ""), LAZY, (path, node.lineno))
                    self.assertNotIn(getattr(called, "attr", ""), ["items", "keys", "values"], (path, node.lineno))

    def test_methods_and_attributes(self):
        classes = [node for tree in TREES.values() for node in ast.walk(tree) if isinstance(node, ast.ClassDef)]
        own = [inner.name for node in classes for inner in node.body if isinstance(inner, ast.FunctionDef)]
        own += [target.id for node in classes for inner in node.body if isinstance(inner, ast.Assign)
                for target in inner.targets]
        stored = [node.attr for tree in TREES.values() for node in ast.walk(tree)
                  if isinstance(node, ast.Attribute) and isinstance(node.ctx, ast.Store)]
        for path, tree in TREES.items():
            calls = [node.func for node in ast.walk(tree) if isinstance(node, ast.Call)]
            setters = [over for node in ast.walk(tree) if isinstance(node, ast.FunctionDef)
                       for over in node.decorator_list]
            for node in ast.walk(tree):
                if isinstance(node, ast.Attribute) and isinstance(node.ctx, ast.Load) and node not in setters:
                    known = own + METHODS if node in calls else own + stored
                    self.assertIn(node.attr, known, (path, node.lineno))

    def test_imports_are_used_and_lead_to_no_circle(self):
        leads = {path.stem: {node.module.split(".")[1] for node in tree.body if isinstance(node, ast.ImportFrom)}
                 for path, tree in TREES.items()}
        while leads:
            free = [name for name in leads if not leads[name] & set(leads)]
            self.assertNotEqual(free, [], leads)
            for name in free:
                del leads[name]
        for path, tree in TREES.items():
            used = [node.id for node in ast.walk(tree) if isinstance(node, ast.Name)]
            for node in tree.body:
                if isinstance(node, ast.ImportFrom):
                    source = TREES[PACKAGE / (node.module.split(".")[1] + ".py")]
                    defined = [inner.name for inner in source.body if isinstance(inner, (ast.FunctionDef, ast.ClassDef))]
                    defined += [inner.targets[0].id for inner in source.body if isinstance(inner, ast.Assign)]
                    for alias in node.names:
                        self.assertIn(alias.name, used, path)
                        self.assertIn(alias.name, defined, path)

    def nodes(self, *kinds):
        for path, tree in TREES.items():
            for node in ast.walk(tree):
                if isinstance(node, kinds):
                    yield path, node

    def test_double_underscore_methods(self):
        for path, node in self.nodes(ast.FunctionDef):
            if node.name.startswith("__"):
                self.assertIn(node.name, DUNDERS, path)
        for path, node in self.nodes(ast.Attribute):
            if node.attr.startswith("__"):
                self.assertEqual(ast.unparse(node), "super().__init__", path)

    def test_len_and_repr_end_with_a_plain_return(self):
        for path, node in self.nodes(ast.FunctionDef):
            if node.name in ("__len__", "__repr__"):
                self.assertIsInstance(node.body[-1], ast.Return, path)
            for inner in ast.walk(node):
                if node.name == "__len__" and isinstance(inner, ast.Return):
                    self.assertRegex(ast.unparse(inner.value), r"^len\(.*\)$", path)
                if node.name == "__repr__" and isinstance(inner, ast.Return):
                    self.assertIsInstance(inner.value, ast.JoinedStr, path)

    def test_finally(self):
        for path, node in self.nodes(ast.Try):
            for inner in node.finalbody:
                self.assertIsInstance(inner, ast.Assign, path)
                self.assertIsInstance(inner.value, (ast.Constant, ast.Name, ast.Attribute), path)

    def test_caught_errors(self):
        own = [node.name for path, node in self.nodes(ast.ClassDef) if path.name == "errors.py"]
        for path, node in self.nodes(ast.ExceptHandler):
            for caught in node.type.elts if isinstance(node.type, ast.Tuple) else [node.type]:
                self.assertIn(caught.id, own + CAUGHT, path)

    def test_raised_errors(self):
        own = [node.name for path, node in self.nodes(ast.ClassDef) if path.name == "errors.py"]
        for path, node in self.nodes(ast.Raise):
            self.assertIn(node.exc.func.id, own, path)
            self.assertIn(ast.unparse(node.cause) if node.cause else "None", ["None"], path)

    def test_only_class_values_are_read_off_a_class(self):
        # Two classes share the name of a property and of an attribute, so no method is read off a class.
        classes = [node.name for path, node in self.nodes(ast.ClassDef)]
        for path, node in self.nodes(ast.Attribute):
            if isinstance(node.value, ast.Name) and node.value.id in classes:
                self.assertTrue(node.attr.isupper(), (path, node.lineno))

    def test_keywords_of_builtins(self):
        for path, node in self.nodes(ast.Call):
            name = getattr(node.func, "id", "")
            for keyword in node.keywords:
                self.assertIsNotNone(keyword.arg, (path, node.lineno))
                if hasattr(builtins, name):
                    self.assertIn(keyword.arg, KEYWORDS.get(name, []), (path, node.lineno))

    def test_defaults_and_decorators(self):
        for path, node in self.nodes(ast.FunctionDef):
            for default in [*node.args.defaults, *[value for value in node.args.kw_defaults if value is not None]]:
                ast.literal_eval(default)
            self.assertEqual(node.args.posonlyargs, [], path)
            for over in node.decorator_list:
                self.assertRegex(ast.unparse(over), r"^(property|classmethod|staticmethod|[a-z]+\.setter)$", path)

    def test_literal_exponents(self):
        for path, node in self.nodes(ast.BinOp):
            if isinstance(node.op, ast.Pow):
                self.assertIsInstance(node.right, ast.Constant, path)
                self.assertLessEqual(node.right.value, 64, path)

    def test_a_generator_shares_its_name_with_nothing(self):
        functions = [node for tree in TREES.values() for node in ast.walk(tree) if isinstance(node, ast.FunctionDef)]
        for node in functions:
            if any(isinstance(inner, (ast.Yield, ast.YieldFrom)) for inner in ast.walk(node)):
                self.assertEqual([other.name for other in functions].count(node.name), 1)


if __name__ == "__main__":
    unittest.main()
