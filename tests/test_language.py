"""The package's files against the rules of the language that can be read off them."""

import ast
import builtins
import pathlib
import re
import unittest

PACKAGE = pathlib.Path(__file__).resolve().parent.parent / "quiltshop"

STATEMENTS = (ast.Assign, ast.AugAssign, ast.If, ast.While, ast.For, ast.Return, ast.Break, ast.Continue, ast.Pass,
              ast.Raise, ast.Try, ast.Expr, ast.FunctionDef, ast.ClassDef, ast.ImportFrom)
OUT = (ast.Div, ast.GeneratorExp, ast.SetComp, ast.DictComp, ast.NamedExpr, ast.Starred, ast.Await, ast.Yield,
       ast.YieldFrom, ast.MatMult)
OWN_NAMES = set(
    "len range enumerate zip min max sum abs sorted reversed int str bool list tuple dict set frozenset isinstance "
    "ord repr any all divmod Exception ValueError TypeError KeyError IndexError LookupError ZeroDivisionError "
    "ArithmeticError OverflowError RuntimeError NotImplementedError AttributeError StopIteration".split())
UNUSED = set(
    "register mro elements open input version_info with_traceback add_note attrgetter breakpoint builtins compile "
    "copyright credits delattr dir eval exec exit gc getattr globals hasattr help id importlib license locals "
    "methodcaller os quit setattr super vars sys format format_map chr print".split())
WORDS_OUT = re.compile(
    r"\b(type|typing|typing_extensions|enum|Enum|IntEnum|StrEnum|Flag|IntFlag|Generic|Protocol|ABC|ABCMeta|namedtuple|"
    r"NamedTuple|TypedDict|TYPE_CHECKING|abstractmethod)\b|dataclass|overload|contextmanager")
METHODS = set(
    "append clear copy count endswith extend find get index insert isalnum isalpha isdigit islower isspace isupper "
    "items join keys ljust lower lstrip partition pop remove replace reverse rfind rjust rpartition rsplit rstrip "
    "setdefault split splitlines startswith strip update upper values zfill bit_length".split())
PYTHONS_METHODS = {name for kind in (str, int, list, dict, set, tuple, bytes) for name in dir(kind)}
WALKED = {"range", "enumerate", "zip", "reversed"}
WALKERS = {"list", "tuple", "dict", "sorted", "sum", "any", "all", "enumerate", "zip", "min", "max"}


def files():
    return sorted(PACKAGE.glob("*.py"))


def trees():
    return [(path.name, ast.parse(path.read_text())) for path in files()]


def nodes(*kinds):
    for name, tree in trees():
        for node in ast.walk(tree):
            if isinstance(node, kinds):
                yield f"{name}:{getattr(node, 'lineno', 0)}", node


class Language(unittest.TestCase):
    def test_nothing_else_lies_in_the_package(self):
        found = [path.name for path in PACKAGE.iterdir() if path.name != "__pycache__"]
        for name in found:
            self.assertRegex(name, r"^[a-z0-9_]+\.py$")
            self.assertTrue(name == "__init__.py" or not hasattr(builtins, name[:-3]), name)
        self.assertIn("__init__.py", found)

    def test_signs_and_size(self):
        for path in files():
            text = path.read_bytes()
            self.assertTrue(all(byte == 10 or 32 <= byte <= 126 for byte in text), path.name)
            rows = text.decode().splitlines()
            self.assertLessEqual(len(rows), 400, path.name)
            self.assertLessEqual(max(len(row) for row in rows), 120, path.name)
            self.assertIsNone(WORDS_OUT.search(text.decode()), path.name)
        for where, node in nodes(ast.FunctionDef):
            self.assertLessEqual(node.end_lineno - node.lineno + 1, 40, where)

    def test_statements_and_expressions(self):
        for where, node in nodes(ast.stmt):
            self.assertIsInstance(node, STATEMENTS, where)
        for where, node in nodes(*OUT):
            self.fail(f"{where}: {node}")
        for where, node in nodes(ast.Assign):
            self.assertEqual(len(node.targets), 1, where)
            self.assertNotIsInstance(node.targets[0], (ast.Tuple, ast.List), where)
        for where, node in nodes(ast.For, ast.While):
            self.assertEqual(node.orelse, [], where)
        for where, node in nodes(ast.ListComp):
            self.assertEqual(len(node.generators), 1, where)
            self.assertLessEqual(len(node.generators[0].ifs), 1, where)
        for where, node in nodes(ast.Set):
            self.fail(where)
        for where, node in nodes(ast.Constant):
            self.assertTrue(node.value is None or isinstance(node.value, (int, str)), where)
            self.assertNotIn("%", str(node.value), where)
        for where, node in nodes(ast.Compare):
            if any(isinstance(sign, (ast.Is, ast.IsNot)) for sign in node.ops):
                self.assertIsInstance(node.comparators[0], ast.Constant, where)
        for where, node in nodes(ast.Pow):
            self.fail(where)

    def test_functions_and_classes(self):
        for where, node in nodes(ast.FunctionDef):
            self.assertEqual(node.decorator_list, [], where)
            self.assertIsNone(node.args.vararg or node.args.kwarg or node.returns, where)
            self.assertEqual(node.args.kwonlyargs + node.args.posonlyargs, [], where)
            self.assertTrue(all(argument.annotation is None for argument in node.args.args), where)
        for where, node in nodes(ast.ClassDef):
            self.assertEqual(node.decorator_list + node.keywords, [], where)
            self.assertLessEqual(len(node.bases), 1, where)
            for part in node.body[1:]:
                self.assertIsInstance(part, ast.FunctionDef, where)

    def test_names(self):
        for name, tree in trees():
            imported = {alias.name for node in tree.body if isinstance(node, ast.ImportFrom) for alias in node.names}
            at_top = [node.name for node in tree.body if isinstance(node, (ast.FunctionDef, ast.ClassDef))]
            at_top += [node.targets[0].id for node in tree.body if isinstance(node, ast.Assign)]
            self.assertEqual(len(set(at_top)), len(at_top), name)
            self.assertFalse(imported & set(at_top), name)
            classes = {node.name for node in tree.body if isinstance(node, ast.ClassDef)}
            for node in ast.walk(tree):
                where = f"{name}:{getattr(node, 'lineno', 0)}"
                if isinstance(node, ast.arg) or isinstance(node, ast.Name) and isinstance(node.ctx, ast.Store):
                    bound = node.arg if isinstance(node, ast.arg) else node.id
                    self.assertRegex(bound, r"^[A-Za-z][A-Za-z0-9_]*$", where)
                    self.assertFalse(hasattr(builtins, bound), where)
                    self.assertNotIn(bound, imported | classes | UNUSED, where)
                if isinstance(node, ast.Name) and hasattr(builtins, node.id):
                    self.assertIn(node.id, OWN_NAMES, where)
                if isinstance(node, (ast.Name, ast.Attribute)):
                    self.assertNotIn(node.id if isinstance(node, ast.Name) else node.attr, UNUSED, where)

    def test_imports(self):
        drawn = {}
        for name, tree in trees():
            for place, node in enumerate(tree.body):
                if isinstance(node, ast.ImportFrom):
                    self.assertEqual(node.level, 0, name)
                    self.assertRegex(node.module, r"^quiltshop\.[a-z]+$")
                    self.assertTrue(all(alias.asname is None and alias.name != "*" for alias in node.names), name)
                    drawn.setdefault(name, set()).add(node.module.partition(".")[2] + ".py")
        left = {path.name for path in files()}
        while left:
            free = {name for name in left if not drawn.get(name, set()) & left}
            self.assertTrue(free, f"files that draw from one another: {left}")
            left -= free

    def test_methods_and_values(self):
        methods = {part.name for _, node in nodes(ast.ClassDef) for part in node.body
                   if isinstance(part, ast.FunctionDef)}
        stored = {node.attr for _, node in nodes(ast.Attribute) if isinstance(node.ctx, ast.Store)}
        self.assertFalse(methods & stored)
        self.assertFalse((methods - {"__init__"}) & PYTHONS_METHODS)
        self.assertFalse(stored & PYTHONS_METHODS)
        called = {id(node.func) for _, node in self.kept_calls() if isinstance(node.func, ast.Attribute)}
        for where, node in self.kept_attributes():
            if node.attr in METHODS | methods:
                self.assertIn(id(node), called, where)
            else:
                self.assertIn(node.attr, stored, where)

    def kept_calls(self):
        return [pair for pair in self.all_nodes() if isinstance(pair[1], ast.Call)]

    def kept_attributes(self):
        return [pair for pair in self.all_nodes() if isinstance(pair[1], ast.Attribute)]

    def all_nodes(self):
        if not hasattr(self, "found"):
            self.found = list(nodes(ast.AST))
        return self.found

    def test_walked_at_once(self):
        fine = set()
        for _, node in self.all_nodes():
            if isinstance(node, (ast.For, ast.comprehension)):
                fine.add(id(node.iter))
            if isinstance(node, ast.Call) and isinstance(node.func, ast.Name) and node.func.id in WALKERS and node.args:
                fine.add(id(node.args[0]))
        for where, node in self.kept_calls():
            if isinstance(node.func, ast.Name) and node.func.id in WALKED:
                self.assertIn(id(node), fine, where)

    def test_the_top_of_a_file(self):
        for name, tree in trees():
            self.assertIsInstance(tree.body[0], ast.Expr, name)
            for node in tree.body[1:]:
                self.assertIsInstance(node, (ast.ImportFrom, ast.FunctionDef, ast.ClassDef, ast.Assign), name)
                if isinstance(node, ast.Assign):
                    ast.literal_eval(node.value)
