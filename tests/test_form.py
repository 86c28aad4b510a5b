"""The package keeps to the small part of Python that it is to be written in."""

import ast
import builtins
import pathlib
import re
import unittest

PACKAGE = pathlib.Path(__file__).resolve().parent.parent / "culverts"

OWN_NAMES = set("""len range enumerate zip min max sum abs sorted reversed int str bool list tuple dict set frozenset
isinstance ord repr any all divmod Exception ValueError TypeError KeyError IndexError LookupError ZeroDivisionError
ArithmeticError OverflowError RuntimeError NotImplementedError AttributeError StopIteration""".split())

OWN_METHODS = set("""append clear copy count endswith extend find get index insert isalnum isalpha isdigit islower
isspace isupper items join keys ljust lower lstrip partition pop remove replace reverse rfind rjust rpartition rsplit
rstrip setdefault split splitlines startswith strip update upper values zfill bit_length""".split())

WORDS = set("""type typing typing_extensions enum Enum IntEnum StrEnum Flag IntFlag Generic Protocol ABC ABCMeta
namedtuple NamedTuple TypedDict TYPE_CHECKING abstractmethod""".split())

PARTS = ("dataclass", "overload", "contextmanager")

ALLOWED = (
    ast.Module, ast.ImportFrom, ast.alias, ast.FunctionDef, ast.ClassDef, ast.arguments, ast.arg, ast.Lambda,
    ast.Assign, ast.AugAssign, ast.If, ast.While, ast.For, ast.Return, ast.Break, ast.Continue, ast.Pass, ast.Expr,
    ast.Constant, ast.List, ast.Tuple, ast.Dict, ast.ListComp, ast.comprehension, ast.IfExp, ast.Compare, ast.BoolOp,
    ast.BinOp, ast.UnaryOp, ast.Call, ast.keyword, ast.Attribute, ast.Subscript, ast.Slice, ast.Name,
    ast.expr_context, ast.boolop, ast.operator, ast.unaryop, ast.cmpop,
)


def files():
    return sorted(PACKAGE.glob("*.py"))


def trees():
    return [(path.name, ast.parse(path.read_text())) for path in files()]


def nodes(kind):
    return [(name, node) for name, tree in trees() for node in ast.walk(tree) if isinstance(node, kind)]


def is_built_in(name):
    return name in vars(builtins)


def is_data(name):
    return any(hasattr(kind, name) for kind in (str, int, list, dict, set, bytes, tuple))


class Files(unittest.TestCase):
    def test_plain_files_alone(self):
        for path in PACKAGE.iterdir():
            if path.name != "__pycache__":
                self.assertRegex(path.name, r"^(__init__|[a-z][a-z0-9_]*)\.py$")
                self.assertFalse(is_built_in(path.stem))
        self.assertTrue((PACKAGE / "__init__.py").is_file())

    def test_signs_and_sizes(self):
        for path in files():
            text = path.read_bytes().decode("ascii")
            self.assertRegex(text, r"\A[ -~\n]*\Z")
            lines = text.split("\n")
            self.assertLessEqual(len(lines), 400)
            self.assertLessEqual(max(len(line) for line in lines), 120)

    def test_words(self):
        for path in files():
            words = set(re.findall(r"\w+", path.read_text()))
            self.assertFalse(words & WORDS)
            self.assertFalse([word for word in words if any(part in word for part in PARTS)])

    def test_functions_are_short(self):
        for name, node in nodes(ast.FunctionDef):
            self.assertLessEqual(node.end_lineno - node.lineno + 1, 40, (name, node.name))


class Form(unittest.TestCase):
    def test_allowed_forms_alone(self):
        for name, node in nodes(ast.AST):
            self.assertIsInstance(node, ALLOWED, (name, getattr(node, "lineno", 0)))
            self.assertNotIsInstance(node, (ast.Div, ast.MatMult), name)

    def test_imports(self):
        drawn = {}
        for name, node in nodes(ast.ImportFrom):
            self.assertEqual(node.level, 0)
            self.assertRegex(node.module, r"^culverts\.[a-z]+$")
            source = node.module.split(".")[1] + ".py"
            tops = dict(trees())[source].body
            bound = [top.name for top in tops if isinstance(top, (ast.FunctionDef, ast.ClassDef))]
            bound += [top.targets[0].id for top in tops if isinstance(top, ast.Assign)]
            for each in node.names:
                self.assertIn(each.name, bound)
                self.assertIsNone(each.asname)
            drawn.setdefault(name, []).append(source)
        self.assert_no_circle(drawn)

    def assert_no_circle(self, drawn):
        for name in drawn:
            reached = list(drawn[name])
            for source in reached:
                reached.extend(each for each in drawn.get(source, []) if each not in reached)
            self.assertNotIn(name, reached)

    def test_assignments(self):
        for name, node in nodes(ast.Assign):
            self.assertEqual(len(node.targets), 1, name)
            self.assertNotIsInstance(node.targets[0], (ast.Tuple, ast.List), name)
        for name, node in nodes((ast.While, ast.For)):
            self.assertEqual(node.orelse, [], name)

    def test_functions_and_classes_are_plain(self):
        for name, node in nodes((ast.FunctionDef, ast.ClassDef)):
            self.assertEqual(node.decorator_list, [], name)
        for name, node in nodes(ast.arguments):
            self.assertEqual((node.vararg, node.kwarg, node.kwonlyargs, node.posonlyargs), (None, None, [], []), name)
        for name, node in nodes(ast.comprehension):
            self.assertLessEqual(len(node.ifs), 1, name)
        for name, node in nodes(ast.ListComp):
            self.assertEqual(len(node.generators), 1, name)

    def test_constants(self):
        for name, node in nodes(ast.Constant):
            self.assertTrue(node.value is None or type(node.value) in (int, str, bool), name)
            if isinstance(node.value, str):
                self.assertNotIn("%", node.value)
        for name, node in nodes(ast.Compare):
            for op, right in zip(node.ops, node.comparators):
                if isinstance(op, (ast.Is, ast.IsNot)):
                    self.assertTrue(isinstance(right, ast.Constant) and right.value in (None, True, False), name)


class Names(unittest.TestCase):
    def test_built_in_names(self):
        for name, node in nodes(ast.Name):
            if is_built_in(node.id):
                self.assertIn(node.id, OWN_NAMES, name)
                self.assertIsInstance(node.ctx, ast.Load, name)
            self.assertRegex(node.id, r"^[A-Za-z]", name)

    def test_parameters_and_methods(self):
        for name, node in nodes(ast.arg):
            self.assertRegex(node.arg, r"^[a-z]", name)
            self.assertFalse(is_built_in(node.arg), (name, node.arg))
            self.assertIsNone(node.annotation)
        for name, node in nodes(ast.FunctionDef):
            self.assertTrue(node.name == "__init__" or re.match("[a-z]", node.name), (name, node.name))
            self.assertFalse(is_built_in(node.name), (name, node.name))

    def test_attributes(self):
        methods = set()
        for name, node in nodes(ast.ClassDef):
            methods |= {each.name for each in node.body if isinstance(each, ast.FunctionDef)}
        for name, node in nodes(ast.Attribute):
            if isinstance(node.ctx, ast.Store):
                self.assertNotIn(node.attr, methods, name)
                self.assertFalse(is_data(node.attr), (name, node.attr))
            if is_data(node.attr):
                self.assertIn(node.attr, OWN_METHODS, name)
        for method in methods - {"__init__"}:
            self.assertFalse(is_data(method), method)

    def test_names_at_the_top_are_bound_once(self):
        for name, tree in trees():
            bound = []
            for node in tree.body:
                if isinstance(node, (ast.FunctionDef, ast.ClassDef)):
                    bound.append(node.name)
                elif isinstance(node, ast.ImportFrom):
                    bound.extend(each.name for each in node.names)
                elif isinstance(node, ast.Assign):
                    bound.append(node.targets[0].id)
                else:
                    self.assertIsInstance(node.value, ast.Constant)
            self.assertEqual(len(bound), len(set(bound)), name)
            inner = {node.id for node in ast.walk(tree) if isinstance(node, ast.Name) and isinstance(node.ctx, ast.Store)}
            inner |= {node.arg for node in ast.walk(tree) if isinstance(node, ast.arg)}
            assigned = {node.targets[0].id for node in tree.body if isinstance(node, ast.Assign)}
            self.assertFalse((inner - assigned) & set(bound), name)


if __name__ == "__main__":
    unittest.main()
