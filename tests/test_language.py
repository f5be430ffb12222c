"""The rules of LANGUAGE.md that a look at the syntax of the package can check."""

import ast
import builtins
import pathlib
import re
import unittest

FOLDER = pathlib.Path(__file__).resolve().parent.parent / "shapeguess"
FILES = sorted(FOLDER.glob("*.py"))
TREES = {path.stem: ast.parse(path.read_text()) for path in FILES}
ALLOWED_BUILTINS = set(
    "len range enumerate zip min max sum abs sorted reversed int str bool list tuple dict set isinstance ord repr any "
    "all divmod Exception ValueError TypeError KeyError IndexError LookupError".split()
)
BUILTIN_METHODS = set(
    "append clear copy count endswith extend find get index insert isalnum isalpha isdigit islower isspace isupper "
    "items join keys ljust lower lstrip partition pop remove replace reverse rfind rjust rpartition rsplit rstrip "
    "setdefault split splitlines startswith strip update upper values zfill bit_length".split()
)
BARRED = set(
    "register mro elements open input law version_info with_traceback add_note attrgetter breakpoint builtins compile "
    "copyright credits delattr dir eval exec exit gc getattr globals hasattr help id importlib license locals "
    "methodcaller os quit setattr super type vars sys".split()
)
BARRED_WORDS = (
    "type", "typing", "enum", "Enum", "Flag", "Generic", "Protocol", "ABC", "namedtuple", "NamedTuple", "dataclass",
    "overload", "contextmanager", "_wall", "_WallAttr",
)
ALLOWED_NODES = (
    ast.Module, ast.Expr, ast.Constant, ast.ImportFrom, ast.alias, ast.FunctionDef, ast.ClassDef, ast.arguments,
    ast.arg, ast.Assign, ast.AugAssign, ast.Name, ast.Load, ast.Store, ast.Return, ast.If, ast.While, ast.For,
    ast.Raise, ast.Try, ast.ExceptHandler, ast.Call, ast.Attribute, ast.Subscript, ast.Slice, ast.Tuple, ast.List,
    ast.Dict, ast.ListComp, ast.DictComp, ast.SetComp, ast.comprehension, ast.BoolOp, ast.And, ast.Or, ast.UnaryOp,
    ast.Not, ast.USub, ast.BinOp, ast.Add, ast.Sub, ast.Mult, ast.Compare, ast.Eq, ast.NotEq, ast.Lt, ast.LtE,
    ast.Gt, ast.GtE, ast.Is, ast.IsNot, ast.In, ast.NotIn, ast.IfExp, ast.JoinedStr, ast.FormattedValue, ast.Break,
    ast.Continue, ast.Pass, ast.BitAnd, ast.BitOr, ast.LShift,
)


def nodes(kind):
    return [(name, node) for name, tree in TREES.items() for node in ast.walk(tree) if isinstance(node, kind)]


def defined(tree):
    return [node.name for node in tree.body if isinstance(node, (ast.FunctionDef, ast.ClassDef))]


def assigned(tree):
    return [node.targets[0].id for node in tree.body if isinstance(node, ast.Assign)]


def imported(tree):
    return [(node.module, alias.name) for node in tree.body if isinstance(node, ast.ImportFrom) for alias in node.names]


def bound_inside(function):
    names = [node.arg for node in ast.walk(function) if isinstance(node, ast.arg)]
    names += [node.id for node in ast.walk(function) if isinstance(node, ast.Name) and isinstance(node.ctx, ast.Store)]
    return names + [node.name for node in ast.walk(function) if isinstance(node, ast.ExceptHandler) and node.name]


class Files(unittest.TestCase):
    def test_folder_holds_plain_files_only(self):
        names = [path.name for path in FOLDER.iterdir() if path.name != "__pycache__"]
        for name in names:
            self.assertRegex(name, r"^([a-z][a-z0-9_]*|__init__)\.py$")
            self.assertNotIn(name[:-3], dir(builtins))

    def test_characters_and_sizes(self):
        for path in FILES:
            text = path.read_text()
            self.assertTrue(all(sign == "\n" or " " <= sign <= "~" for sign in text), path)
            lines = text.splitlines()
            self.assertLessEqual(len(lines), 399, path)
            self.assertLessEqual(max(map(len, lines)), 120, path)

    def test_length_of_functions(self):
        for name, node in nodes(ast.FunctionDef):
            self.assertLessEqual(node.end_lineno - node.lineno + 1, 40, (name, node.name))

    def test_barred_words(self):
        for path in FILES:
            for word in BARRED_WORDS:
                self.assertIsNone(re.search(r"\b" + word + r"\b", path.read_text()), (path, word))


class Syntax(unittest.TestCase):
    def test_only_plain_syntax(self):
        for name, node in nodes(ast.AST):
            self.assertIsInstance(node, ALLOWED_NODES, (name, getattr(node, "lineno", 0)))

    def test_module_level(self):
        for name, tree in TREES.items():
            allowed = (ast.ImportFrom, ast.FunctionDef, ast.ClassDef, ast.Assign)
            self.assertIsNotNone(ast.get_docstring(tree), name)
            for node in tree.body[1:]:
                self.assertIsInstance(node, allowed, (name, node.lineno))
                if isinstance(node, ast.Assign):
                    ast.literal_eval(node.value)

    def test_no_stars_decorators_annotations_or_defaults(self):
        for name, node in nodes(ast.FunctionDef):
            told = node.args
            self.assertFalse(node.decorator_list or node.returns or told.vararg or told.kwarg or told.kwonlyargs, name)
            self.assertFalse([arg for arg in told.args if arg.annotation] or told.defaults, (name, node.name))

    def test_imports(self):
        for name, tree in TREES.items():
            for module, word in imported(tree):
                package, stem = module.split(".")
                self.assertEqual(package, "shapeguess")
                self.assertIn(word, defined(TREES[stem]) + assigned(TREES[stem]), (name, module))

    def test_no_circles_of_imports(self):
        behind = {name: {module.split(".")[1] for module, _ in imported(tree)} for name, tree in TREES.items()}
        while behind:
            free = [name for name in behind if not behind[name] & set(behind)]
            self.assertTrue(free, behind)
            behind = {name: behind[name] for name in behind if name not in free}

    def test_is_beside_none_alone(self):
        for name, node in nodes(ast.Compare):
            for sign, right in zip(node.ops, node.comparators):
                if isinstance(sign, (ast.Is, ast.IsNot)):
                    self.assertTrue(isinstance(right, ast.Constant) and right.value is None, (name, node.lineno))

    def test_strings(self):
        for name, node in nodes(ast.Constant):
            self.assertNotIsInstance(node.value, (float, complex), (name, node.lineno))
            if isinstance(node.value, str):
                self.assertNotIn("%", node.value, (name, node.lineno))

    def test_raise_creates_its_error(self):
        for name, node in nodes(ast.Raise):
            self.assertIsInstance(node.exc, ast.Call, (name, node.lineno))

    def test_sets_are_used_at_once(self):
        for name, tree in TREES.items():
            used = [id(arg) for node in ast.walk(tree) if isinstance(node, ast.Call) for arg in node.args
                    if isinstance(node.func, ast.Name) and node.func.id in ("sorted", "len")]
            for node in ast.walk(tree):
                is_call = isinstance(node, ast.Call) and isinstance(node.func, ast.Name) and node.func.id == "set"
                if is_call or isinstance(node, ast.SetComp):
                    self.assertIn(id(node), used, (name, node.lineno))


class Names(unittest.TestCase):
    def test_bound_once_at_module_level(self):
        for name, tree in TREES.items():
            names = [word for _, word in imported(tree)] + defined(tree) + assigned(tree)
            self.assertEqual(len(names), len(set(names)), name)

    def test_no_name_of_a_builtin_class_or_import(self):
        for name, tree in TREES.items():
            classes = [node.name for node in tree.body if isinstance(node, ast.ClassDef)]
            taken = set(dir(builtins)) | set(classes) | {word for _, word in imported(tree)} | BARRED
            for node in tree.body:
                if isinstance(node, (ast.FunctionDef, ast.ClassDef)):
                    bound = bound_inside(node)
                    self.assertFalse(taken & set(bound), (name, node.name))
                    self.assertNotIn(node.name, set(dir(builtins)) | BARRED)

    def test_builtins(self):
        for name, node in nodes(ast.Name):
            if node.id in dir(builtins):
                self.assertIn(node.id, ALLOWED_BUILTINS, (name, node.lineno))

    def test_plain_names(self):
        for name, node in nodes((ast.Name, ast.arg, ast.Attribute, ast.FunctionDef, ast.ClassDef)):
            word = getattr(node, "id", None) or getattr(node, "arg", None) or getattr(node, "attr", None) or node.name
            self.assertRegex(word, r"^(_?[A-Za-z][A-Za-z0-9_]*|_|__init__|__eq__|__len__)$", name)
            self.assertNotIn(word, {"register", "mro", "elements", "open", "input", "law"}, name)

    def test_methods(self):
        own = {method.name for _, node in nodes(ast.ClassDef) for method in node.body
               if isinstance(method, ast.FunctionDef)}
        for name, node in nodes(ast.Call):
            if isinstance(node.func, ast.Attribute):
                self.assertIn(node.func.attr, own | BUILTIN_METHODS, (name, node.lineno))
                self.assertFalse(node.keywords, (name, node.lineno))
        every = set().union(*(dir(kind) for kind in (str, int, list, dict, set, bytes)))
        for word in own - {"__init__", "__eq__", "__len__"}:
            self.assertNotIn(word, every)

    def test_no_attribute_is_a_method(self):
        methods = {method.name for _, node in nodes(ast.ClassDef) for method in node.body
                   if isinstance(method, ast.FunctionDef)}
        stored = {node.attr for _, node in nodes(ast.Attribute) if isinstance(node.ctx, ast.Store)}
        self.assertFalse(methods & stored)

    def test_nothing_else_than_methods_in_a_class(self):
        for name, node in nodes(ast.ClassDef):
            for member in node.body:
                is_docstring = isinstance(member, ast.Expr) and isinstance(member.value, ast.Constant)
                self.assertTrue(is_docstring or isinstance(member, ast.FunctionDef), (name, node.name))


if __name__ == "__main__":
    unittest.main()
