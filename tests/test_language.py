"""Those rules of LANGUAGE.md that a look at each file of the package alone can check."""

import ast
import builtins
import pathlib
import re
import unittest
import warnings

PACKAGE = pathlib.Path(__file__).resolve().parent.parent / "onlyviews"
BUILTINS = set(
    "len range enumerate zip min max sum abs sorted reversed int str bool bytes list tuple dict set frozenset "
    "isinstance ord repr any all divmod pow getattr hasattr setattr iter next map type super property staticmethod "
    "classmethod Exception ValueError TypeError KeyError IndexError LookupError ZeroDivisionError ArithmeticError "
    "OverflowError RuntimeError NotImplementedError AttributeError StopIteration NotImplemented".split())
METHODS = set(
    "append clear copy count endswith extend find get index insert isalnum isalpha isdigit islower isspace isupper "
    "items join keys ljust lower lstrip partition pop remove replace reverse rfind rjust rpartition rsplit rstrip "
    "setdefault split splitlines startswith strip update upper values zfill bit_length title capitalize swapcase "
    "casefold center expandtabs removeprefix removesuffix rindex isascii isdecimal isnumeric istitle isidentifier "
    "isprintable translate add discard".split())
SPECIAL = set("__init__ __eq__ __repr__ __str__ __len__".split())
DECORATORS = set("property staticmethod classmethod".split())
BARRED = set(
    "type typing typing_extensions enum Enum IntEnum StrEnum Flag IntFlag Generic Protocol ABC ABCMeta namedtuple "
    "NamedTuple TypedDict TYPE_CHECKING abstractmethod _wall _WallAttr".split())
UNUSED = set(
    "register mro elements open input law version_info with_traceback add_note attrgetter breakpoint builtins compile "
    "copyright credits delattr dir eval exec exit gc globals help id importlib license locals methodcaller os quit "
    "vars sys".split())
NODES = (
    ast.Module, ast.Import, ast.ImportFrom, ast.alias, ast.FunctionDef, ast.ClassDef, ast.Lambda, ast.arguments,
    ast.arg, ast.keyword, ast.Assign, ast.AugAssign, ast.If, ast.While, ast.For, ast.Return, ast.Break, ast.Continue,
    ast.Pass, ast.Raise, ast.Assert, ast.Delete, ast.Nonlocal, ast.Yield, ast.YieldFrom, ast.Try, ast.ExceptHandler,
    ast.Expr, ast.BoolOp, ast.BinOp, ast.UnaryOp, ast.IfExp, ast.Compare, ast.Call, ast.Attribute, ast.Subscript,
    ast.Slice, ast.Name, ast.Constant, ast.List, ast.Tuple, ast.Dict, ast.Set, ast.Starred, ast.ListComp, ast.DictComp,
    ast.SetComp, ast.GeneratorExp, ast.comprehension, ast.JoinedStr, ast.FormattedValue, ast.NamedExpr,
    ast.expr_context, ast.boolop, ast.operator, ast.unaryop, ast.cmpop)
NO_SIGNS = (ast.Div, ast.MatMult)
TAKES_LIST = set("any all min max sum sorted".split())


def builtin_methods():
    """Return the names of all methods and attributes of the builtin values."""
    return {name for kind in (int, str, bytes, list, tuple, dict, set) for name in dir(kind)}


class LanguageTest(unittest.TestCase):

    @classmethod
    def setUpClass(cls):
        cls.paths = sorted(PACKAGE.glob("*.py"))
        cls.texts = {path.name: path.read_text("utf-8") for path in cls.paths}
        cls.trees = {name: ast.parse(text) for name, text in cls.texts.items()}

    def nodes(self, *kinds):
        for name, tree in self.trees.items():
            for node in ast.walk(tree):
                if isinstance(node, kinds):
                    yield f"{name}:{getattr(node, 'lineno', 0)}", node

    def test_files(self):
        found = sorted(path.name for path in PACKAGE.iterdir() if path.name != "__pycache__")
        self.assertEqual(found, [path.name for path in self.paths])
        self.assertIn("__init__.py", found)
        for path in self.paths:
            self.assertRegex(path.name, r"^(__init__|[a-z][a-z0-9_]*)\.py$")
            self.assertNotIn(path.stem, vars(builtins), path.name)
            self.assertNotIn(path.stem, BARRED | UNUSED)

    def test_characters_and_sizes(self):
        for name, text in self.texts.items():
            self.assertRegex(text, r"\A[ -~\n]*\Z", name)
            self.assertLessEqual(len(text.splitlines()), 399, name)
            self.assertLessEqual(max(len(line) for line in text.split("\n")), 120, name)
        for place, node in self.nodes(ast.FunctionDef):
            self.assertLessEqual(node.end_lineno - node.lineno + 1, 40, place)

    def test_words(self):
        for name, text in self.texts.items():
            for word in re.findall(r"\w+", text):
                self.assertNotIn(word, BARRED, name)

    def test_kinds_of_statements_and_expressions(self):
        for place, node in self.nodes(ast.AST):
            self.assertIsInstance(node, NODES, place)
            self.assertNotIsInstance(node, NO_SIGNS, place)
            if isinstance(node, ast.Constant):
                self.assertNotIsInstance(node.value, (float, complex), place)

    def test_module_level(self):
        for name, tree in self.trees.items():
            bound = []
            for node in tree.body:
                kinds = (ast.ImportFrom, ast.FunctionDef, ast.ClassDef, ast.Assign, ast.Expr)
                self.assertIsInstance(node, kinds, name)
                if isinstance(node, ast.Expr):
                    self.assertIsInstance(node.value, ast.Constant, name)
                elif isinstance(node, ast.ImportFrom):
                    bound.extend(alias.name for alias in node.names)
                elif isinstance(node, ast.Assign):
                    self.assertEqual([type(target) for target in node.targets], [ast.Name], name)
                    self.assertEqual([kind for kind in ast.walk(node.value) if isinstance(kind, ast.Call)], [], name)
                    bound.append(node.targets[0].id)
                else:
                    bound.append(node.name)
            self.assertEqual(len(bound), len(set(bound)), name)

    def imports(self):
        """Return for each file the list of pairs (file, name) that it imports from the package."""
        found = {name: [] for name in self.trees}
        for place, node in self.nodes(ast.ImportFrom):
            name = place.split(":")[0]
            if node.module.startswith("onlyviews."):
                found[name].extend((node.module.split(".", 1)[1] + ".py", alias.name) for alias in node.names)
        return found

    def test_imports(self):
        self.assertEqual([place for place, node in self.nodes(ast.Import)], [])
        library = ("heapq", "math", "itertools", "collections", "__future__")
        for place, node in self.nodes(ast.ImportFrom):
            self.assertEqual(node.level, 0, place)
            self.assertTrue(node.module in library or node.module.startswith("onlyviews."), place)
            self.assertEqual([alias for alias in node.names if alias.name == "*"], [], place)
        for name, pairs in self.imports().items():
            for source, word in pairs:
                self.assertIn(source, self.trees, name)
                own = [node for node in self.trees[source].body if not isinstance(node, ast.ImportFrom)]
                defined = [node.name for node in own if isinstance(node, (ast.FunctionDef, ast.ClassDef))]
                defined.extend(node.targets[0].id for node in own if isinstance(node, ast.Assign))
                self.assertIn(word, defined, f"{name} takes {word} from {source}")

    def test_no_circle_of_imports(self):
        left = {name: {source for source, _ in pairs} for name, pairs in self.imports().items()}
        while left:
            free = [name for name in left if not left[name] & set(left)]
            self.assertNotEqual(free, [], f"a circle among {sorted(left)}")
            for name in free:
                del left[name]

    def test_builtins(self):
        for place, node in self.nodes(ast.Name):
            if isinstance(node.ctx, ast.Load) and node.id in vars(builtins):
                self.assertIn(node.id, BUILTINS, place)

    def bound_names(self):
        for place, node in self.nodes(ast.Name, ast.arg, ast.FunctionDef, ast.ClassDef, ast.ExceptHandler):
            if isinstance(node, ast.Name) and not isinstance(node.ctx, ast.Load):
                yield place, node.id
            elif isinstance(node, ast.arg):
                yield place, node.arg
            elif isinstance(node, (ast.FunctionDef, ast.ClassDef, ast.ExceptHandler)) and node.name:
                yield place, node.name

    def test_names(self):
        for place, name in self.bound_names():
            self.assertNotIn(name, UNUSED, place)
            self.assertNotIn(name, vars(builtins), place)
            self.assertTrue(name in SPECIAL or re.fullmatch(r"_|_?[A-Za-z][A-Za-z0-9_]*", name), place)
        for place, node in self.nodes(ast.Attribute):
            self.assertTrue(node.attr in SPECIAL or re.fullmatch(r"_?[A-Za-z][A-Za-z0-9_]*", node.attr), place)

    def test_names_of_classes_and_imports(self):
        for name, tree in self.trees.items():
            taken = {alias.name for node in tree.body if isinstance(node, ast.ImportFrom) for alias in node.names}
            taken |= {node.name for node in tree.body if isinstance(node, ast.ClassDef)}
            for outer in tree.body:
                for node in ast.walk(outer):
                    if isinstance(node, ast.Name) and not isinstance(node.ctx, ast.Load):
                        self.assertNotIn(node.id, taken, f"{name}:{node.lineno}")
                    elif isinstance(node, ast.arg):
                        self.assertNotIn(node.arg, taken, f"{name}:{node.lineno}")

    def test_methods_and_attributes(self):
        attributes = {node.attr for place, node in self.nodes(ast.Attribute) if isinstance(node.ctx, ast.Store)}
        for place, node in self.nodes(ast.ClassDef):
            methods = [part.name for part in node.body if isinstance(part, ast.FunctionDef)]
            self.assertEqual(len(methods), len(set(methods)), place)
            self.assertEqual(attributes & set(methods), set(), place)

    def test_methods_of_builtin_values(self):
        barred = builtin_methods() - METHODS
        for place, node in self.nodes(ast.Attribute):
            self.assertNotIn(node.attr, barred - SPECIAL - {"sort"}, place)

    def test_decorators(self):
        for place, node in self.nodes(ast.FunctionDef, ast.ClassDef):
            for decorator in node.decorator_list:
                self.assertIsInstance(node, ast.FunctionDef, place)
                plain = isinstance(decorator, ast.Name) and decorator.id in DECORATORS
                self.assertTrue(plain or isinstance(decorator, ast.Attribute) and decorator.attr == "setter", place)

    def test_lists_where_a_class_has_equality(self):
        for place, node in self.nodes(ast.Call):
            if isinstance(node.func, ast.Name) and node.func.id in TAKES_LIST:
                self.assertFalse(any(isinstance(part, ast.GeneratorExp) for part in node.args), place)

    def test_no_warnings(self):
        with warnings.catch_warnings():
            warnings.simplefilter("error")
            for name, text in self.texts.items():
                compile(text, name, "exec")


if __name__ == "__main__":
    unittest.main()
