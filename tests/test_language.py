"""The package's files keep to the small part of Python: what of its rules can be read off the syntax."""

import ast
import builtins
import re
import unittest
from pathlib import Path

FOLDER = Path(__file__).resolve().parent.parent / "wirequotients"
FILES = sorted(FOLDER.rglob("*.py"))

STATEMENTS = (ast.Assign, ast.AugAssign, ast.AnnAssign, ast.If, ast.While, ast.For, ast.Return, ast.Break, ast.Continue,
              ast.Pass, ast.Raise, ast.Try, ast.Expr, ast.FunctionDef, ast.ClassDef, ast.ImportFrom)
EXPRESSIONS = (ast.Constant, ast.Name, ast.List, ast.Tuple, ast.Dict, ast.Set, ast.BinOp, ast.UnaryOp, ast.BoolOp,
               ast.Compare, ast.IfExp, ast.Call, ast.Attribute, ast.Subscript, ast.Slice, ast.ListComp, ast.Lambda,
               ast.JoinedStr, ast.FormattedValue)
OWN_NAMES = """len range enumerate zip min max sum abs sorted reversed int str bool list tuple dict set frozenset isinstance
ord repr any all divmod Exception ValueError TypeError KeyError IndexError LookupError ZeroDivisionError ArithmeticError
OverflowError RuntimeError NotImplementedError AttributeError StopIteration""".split()
METHODS = """append clear copy count endswith extend find get index insert isalnum isalpha isdigit islower isspace isupper
items join keys ljust lower lstrip partition pop remove replace reverse rfind rjust rpartition rsplit rstrip setdefault
split splitlines startswith strip update upper values zfill bit_length""".split()
NOWHERE = "register mro elements open input version_info with_traceback add_note format format_map".split()
NOT_AS_NAMES = """attrgetter breakpoint builtins compile copyright credits delattr dir eval exec exit gc getattr globals
hasattr help id importlib license locals methodcaller os quit setattr super type vars sys""".split()
WORDS = """type typing typing_extensions enum Enum IntEnum StrEnum Flag IntFlag Generic Protocol ABC ABCMeta namedtuple
NamedTuple TypedDict TYPE_CHECKING abstractmethod""".split()
PARTS_OF_WORDS = ("dataclass", "overload", "contextmanager")
WALKED = "zip enumerate reversed range items keys values".split()
WALKERS = "list tuple dict sorted sum any all enumerate zip min max".split()
TAKEN_ATTRIBUTES = {name for kind in (str, int, list, dict, set, bytes, tuple) for name in dir(kind)}


def texts():
    return [(path, path.read_text(encoding="utf-8")) for path in FILES]


def trees():
    return [(path, ast.parse(text)) for path, text in texts()]


def nodes():
    return [(f"{path.name}:{getattr(node, 'lineno', 0)}", node) for path, tree in trees() for node in ast.walk(tree)]


def is_plain(value, functions):
    if isinstance(value, (ast.List, ast.Tuple)):
        return all(is_plain(inner, functions) for inner in value.elts)
    if isinstance(value, ast.Dict):
        return all(is_plain(inner, functions) for inner in value.keys + value.values)
    if isinstance(value, ast.UnaryOp):
        return isinstance(value.op, ast.USub) and is_plain(value.operand, [])
    if isinstance(value, ast.Name):
        return value.id in functions
    return isinstance(value, ast.Constant) and (value.value is None or isinstance(value.value, (int, str)))


def defined_in(tree):
    names = [node.name for node in tree.body if isinstance(node, (ast.FunctionDef, ast.ClassDef))]
    return names + [node.targets[0].id for node in tree.body if isinstance(node, ast.Assign)]


def imported_in(tree):
    return [alias.name for node in tree.body if isinstance(node, ast.ImportFrom) for alias in node.names]


def bound_in(function):
    names = [arg.arg for arg in function.args.args]
    return names + [node.id for node in ast.walk(function)
                    if isinstance(node, ast.Name) and isinstance(node.ctx, ast.Store)]


class Files(unittest.TestCase):
    def test_only_plain_files(self):
        self.assertIn(FOLDER / "__init__.py", FILES)
        for path in FOLDER.rglob("*"):
            if "__pycache__" not in path.parts:
                self.assertRegex(path.name, r"^([a-z][a-z0-9_]*|__init__|__main__)\.py$")
                self.assertNotIn(path.stem, WORDS + NOT_AS_NAMES + dir(builtins))
                self.assertNotRegex(path.stem, r"^(tests?|testing|test_.*|site|conftest|sitecustomize|usercustomize)$")

    def test_signs_and_size(self):
        for path, text in texts():
            self.assertTrue(all(sign == "\n" or " " <= sign <= "~" for sign in text), path)
            lines = text.split("\n")
            self.assertLessEqual(len(lines), 400, path)
            self.assertLessEqual(max(map(len, lines)), 120, path)

    def test_words(self):
        for path, text in texts():
            found = re.findall(r"[A-Za-z0-9_]+", text)
            self.assertFalse(set(found) & set(WORDS), path)
            self.assertFalse([word for word in PARTS_OF_WORDS if word in text], path)


class Tops(unittest.TestCase):
    def test_the_top_of_a_module(self):
        for path, tree in trees():
            functions = []
            bound = []
            for place, node in enumerate(tree.body):
                if isinstance(node, ast.FunctionDef):
                    functions.append(node.name)
                    bound.append(node.name)
                elif isinstance(node, ast.ClassDef):
                    bound.append(node.name)
                elif isinstance(node, ast.ImportFrom):
                    bound.extend(alias.name for alias in node.names)
                elif isinstance(node, ast.Assign):
                    self.assertTrue(is_plain(node.value, functions), (path, node.lineno))
                    bound.extend(target.id for target in node.targets)
                else:
                    self.assertTrue(place == 0 and isinstance(node, ast.Expr), (path, node.lineno))
                    self.assertIsInstance(node.value, ast.Constant)
            self.assertEqual(len(bound), len(set(bound)), path)

    def test_imports(self):
        tops = {"wirequotients." + path.stem: tree for path, tree in trees()}
        drawn = {}
        for name, tree in tops.items():
            imports = [node for node in ast.walk(tree) if isinstance(node, (ast.Import, ast.ImportFrom))]
            drawn[name] = [node.module for node in imports]
            for node in imports:
                self.assertIsInstance(node, ast.ImportFrom)
                self.assertEqual(node.level, 0)
                self.assertIn(node, tree.body)
                self.assertIn(node.module, tops)
                for alias in node.names:
                    self.assertIsNone(alias.asname)
                    self.assertIn(alias.name, defined_in(tops[node.module]))
        self.assertEqual(drawn["wirequotients.__init__"], [])
        while drawn:
            free = [name for name in drawn if not [other for other in drawn[name] if other in drawn]]
            self.assertTrue(free, "files draw from one another")
            for name in free:
                del drawn[name]


class Syntax(unittest.TestCase):
    def test_statements_and_expressions(self):
        for where, node in nodes():
            if isinstance(node, ast.stmt):
                self.assertIsInstance(node, STATEMENTS, where)
            if isinstance(node, ast.expr):
                self.assertIsInstance(node, EXPRESSIONS, where)
            if isinstance(node, ast.Assign):
                self.assertEqual(len(node.targets), 1, where)
            if isinstance(node, (ast.For, ast.While)):
                self.assertEqual(node.orelse, [], where)
            if isinstance(node, ast.ListComp):
                self.assertEqual(len(node.generators), 1, where)
                self.assertLessEqual(len(node.generators[0].ifs), 1, where)
            if isinstance(node, ast.Try):
                self.assertEqual(node.finalbody, [], where)
            if isinstance(node, ast.BinOp):
                self.assertNotIsInstance(node.op, (ast.Div, ast.MatMult), where)
            if isinstance(node, ast.Constant):
                self.assertTrue(node.value is None or isinstance(node.value, (int, str)), where)
                self.assertFalse(isinstance(node.value, str) and "%" in node.value, where)
            if isinstance(node, ast.BinOp) and isinstance(node.op, ast.Pow):
                self.assertIsInstance(node.right, ast.Constant, where)
            if isinstance(node, ast.Compare) and any(isinstance(op, (ast.Is, ast.IsNot)) for op in node.ops):
                self.assertIsInstance(node.comparators[0], ast.Constant, where)

    def test_functions(self):
        for where, node in nodes():
            if isinstance(node, ast.FunctionDef):
                self.assertLessEqual(node.end_lineno - node.lineno + 1, 40, where)
                self.assertEqual(node.decorator_list, [], where)
                arguments = node.args
                self.assertFalse(arguments.vararg or arguments.kwarg or arguments.kwonlyargs or arguments.posonlyargs)
                self.assertTrue(all(is_plain(value, []) for value in arguments.defaults), where)

    def test_classes(self):
        methods = []
        values = []
        for where, node in nodes():
            if isinstance(node, ast.ClassDef):
                self.assertEqual(node.decorator_list + node.keywords, [], where)
                self.assertLessEqual(len(node.bases), 1, where)
                for inner in node.body[1 if ast.get_docstring(node) else 0:]:
                    self.assertIsInstance(inner, ast.FunctionDef, where)
                    methods.append(inner.name)
            if isinstance(node, ast.Attribute) and isinstance(node.ctx, ast.Store):
                self.assertNotIn(node.attr, TAKEN_ATTRIBUTES, where)
                values.append(node.attr)
        self.assertFalse(set(methods) & set(values))

    def test_walked_at_once(self):
        for path, tree in trees():
            walked = []
            for node in ast.walk(tree):
                if isinstance(node, (ast.For, ast.comprehension)):
                    walked.append(node.iter)
                if isinstance(node, ast.Call) and isinstance(node.func, ast.Name) and node.func.id in WALKERS:
                    walked.extend(node.args)
            for node in ast.walk(tree):
                if isinstance(node, ast.Call):
                    name = getattr(node.func, "id", getattr(node.func, "attr", ""))
                    self.assertTrue(name not in WALKED or node in walked, (path, node.lineno))


class Names(unittest.TestCase):
    def test_every_name_is_plain(self):
        for where, node in nodes():
            name = getattr(node, "id", getattr(node, "attr", getattr(node, "name", getattr(node, "arg", None))))
            if isinstance(name, str) and name != "__init__":
                self.assertRegex(name, r"^[A-Za-z][A-Za-z0-9_]*$", where)
                self.assertNotIn(name, NOWHERE, where)
                self.assertNotRegex(name, r"^(f|tb|co|gi|cr|ag)_", where)
                if not isinstance(node, ast.Attribute):
                    self.assertNotIn(name, NOT_AS_NAMES, where)

    def test_only_some_of_pythons_own(self):
        for path, tree in trees():
            own = defined_in(tree) + imported_in(tree)
            for node in ast.walk(tree):
                if isinstance(node, ast.FunctionDef):
                    own += bound_in(node)
            for node in ast.walk(tree):
                if isinstance(node, ast.Name):
                    self.assertIn(node.id, own + OWN_NAMES, (path, node.lineno))

    def test_locals_hide_nothing(self):
        for path, tree in trees():
            hidden = imported_in(tree) + defined_in(tree) + dir(builtins)
            for node in ast.walk(tree):
                if isinstance(node, ast.FunctionDef):
                    self.assertFalse(set(bound_in(node)) & set(hidden), (path, node.name))

    def test_methods_of_pythons_own_values(self):
        for where, node in nodes():
            if isinstance(node, ast.Call) and isinstance(node.func, ast.Attribute):
                self.assertIn(node.func.attr, METHODS, where)


if __name__ == "__main__":
    unittest.main()
