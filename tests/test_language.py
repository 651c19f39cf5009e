"""The package keeps to the small part of Python that it is written in."""

import ast
import builtins
import os
import re
import unittest

PACKAGE = os.path.join(os.path.dirname(os.path.dirname(os.path.abspath(__file__))), "pipewater")

STATEMENTS = (ast.FunctionDef, ast.ClassDef, ast.Return, ast.Assign, ast.AugAssign, ast.For, ast.While, ast.If,
              ast.Raise, ast.Try, ast.ImportFrom, ast.Expr, ast.Pass, ast.Break, ast.Continue)
EXPRESSIONS = (ast.BoolOp, ast.BinOp, ast.UnaryOp, ast.Lambda, ast.IfExp, ast.Dict, ast.ListComp, ast.Compare, ast.Call,
               ast.FormattedValue, ast.JoinedStr, ast.Constant, ast.Attribute, ast.Subscript, ast.Name, ast.List,
               ast.Tuple, ast.Slice)
BUILTINS = ("len range enumerate zip min max sum abs sorted reversed int str bool list tuple dict set frozenset isinstance "
            "ord repr any all divmod Exception ValueError KeyError IndexError").split()
METHODS = ("append clear copy count endswith extend find get index insert isalnum isalpha isdigit islower isspace isupper "
           "items join keys ljust lower lstrip partition pop remove replace reverse rfind rjust rpartition rsplit rstrip "
           "setdefault split splitlines startswith strip update upper values zfill bit_length").split()
NO_NAMES = ("register mro elements open input version_info with_traceback add_note attrgetter breakpoint builtins compile "
            "copyright credits delattr dir eval exec exit gc getattr globals hasattr help id importlib license locals "
            "methodcaller os quit setattr super type vars sys chr print format").split()
NO_WORDS = ("type typing typing_extensions enum Enum IntEnum StrEnum Flag IntFlag Generic Protocol ABC ABCMeta namedtuple "
            "NamedTuple TypedDict TYPE_CHECKING abstractmethod").split()


def package_files():
    return sorted(name for name in os.listdir(PACKAGE) if name != "__pycache__")


def source_of(name):
    with open(os.path.join(PACKAGE, name), encoding="utf-8") as file:
        return file.read()


def trees():
    return [(name, ast.parse(source_of(name))) for name in package_files()]


def nodes(kind):
    return [(name, node) for name, tree in trees() for node in ast.walk(tree) if isinstance(node, kind)]


class Files(unittest.TestCase):
    def test_names(self):
        self.assertIn("__init__.py", package_files())
        for name in package_files():
            self.assertRegex(name, r"^([a-z][a-z0-9_]*|__init__)\.py$")
            self.assertNotIn(name[:-3], dir(builtins))
            self.assertFalse(name.startswith("test"), name)

    def test_size_and_signs(self):
        for name in package_files():
            source = source_of(name)
            rows = source.split("\n")
            self.assertLessEqual(len(rows), 400, name)
            self.assertLessEqual(max(len(row) for row in rows), 120, name)
            self.assertRegex(source, r"^[ -~\n]*$", name)

    def test_words(self):
        for name in package_files():
            words = re.findall("[A-Za-z0-9_]+", source_of(name))
            self.assertEqual([word for word in words if word in NO_WORDS], [], name)
            self.assertNotRegex(source_of(name), "dataclass|overload|contextmanager")

    def test_functions_have_at_most_40_lines(self):
        for name, node in nodes(ast.FunctionDef):
            self.assertLessEqual(node.end_lineno - node.lineno + 1, 40, (name, node.name))


class Imports(unittest.TestCase):
    def test_own_modules_alone_and_none_in_a_round(self):
        draws = {}
        for name, tree in trees():
            rows = [node for node in ast.walk(tree) if isinstance(node, (ast.Import, ast.ImportFrom))]
            for row in rows:
                self.assertIsInstance(row, ast.ImportFrom, name)
                self.assertEqual(row.level, 0, name)
                self.assertRegex(row.module, r"^pipewater\.[a-z]+$")
                self.assertIn(row, tree.body)
            draws[name] = {row.module.split(".")[1] + ".py" for row in rows}
            for row in rows:
                self.assert_defined(row)
        while draws:
            free = [name for name in draws if not draws[name] & set(draws)]
            self.assertNotEqual(free, [], draws)
            draws = {name: drawn for name, drawn in draws.items() if name not in free}

    def assert_defined(self, row):
        tree = ast.parse(source_of(row.module.split(".")[1] + ".py"))
        names = [node.name for node in tree.body if isinstance(node, (ast.FunctionDef, ast.ClassDef))]
        names += [node.targets[0].id for node in tree.body if isinstance(node, ast.Assign)]
        for alias in row.names:
            self.assertIn(alias.name, names)
            self.assertIsNone(alias.asname)


class Forms(unittest.TestCase):
    def test_statements_and_expressions(self):
        for name, node in nodes(ast.stmt):
            self.assertIsInstance(node, STATEMENTS, (name, node.lineno))
        for name, node in nodes(ast.expr):
            self.assertIsInstance(node, EXPRESSIONS, (name, node.lineno))

    def test_the_top_of_a_module(self):
        for name, tree in trees():
            bound = []
            for node in tree.body:
                self.assertIsInstance(node, (ast.Expr, ast.ImportFrom, ast.FunctionDef, ast.ClassDef, ast.Assign))
                if isinstance(node, ast.Expr):
                    self.assertIs(node, tree.body[0])
                if isinstance(node, ast.Assign):
                    ast.literal_eval(node.value)
                    bound.append(node.targets[0].id)
                if isinstance(node, (ast.FunctionDef, ast.ClassDef)):
                    bound.append(node.name)
                if isinstance(node, ast.ImportFrom):
                    bound += [alias.name for alias in node.names]
            self.assertEqual(len(bound), len(set(bound)), name)

    def test_functions_and_classes(self):
        for name, node in nodes(ast.FunctionDef):
            self.assertEqual(node.decorator_list, [])
            self.assertIsNone(node.args.vararg or node.args.kwarg or node.returns)
            self.assertEqual(node.args.kwonlyargs + node.args.posonlyargs, [])
        for name, node in nodes(ast.ClassDef):
            self.assertEqual(node.decorator_list + node.keywords, [])
            self.assertLessEqual(len(node.bases), 1)
            for part in node.body:
                self.assertIsInstance(part, (ast.FunctionDef, ast.Expr))

    def test_assignments_loops_and_tries(self):
        for name, node in nodes(ast.Assign):
            self.assertEqual(len(node.targets), 1)
        for name, node in nodes((ast.For, ast.While)):
            self.assertEqual(node.orelse, [])
        for name, node in nodes(ast.Try):
            self.assertEqual(node.finalbody, [])
        for name, node in nodes(ast.ExceptHandler):
            self.assertNotIn(node.type.id, dir(builtins))
        for name, node in nodes(ast.ListComp):
            self.assertEqual(len(node.generators), 1)
            self.assertLessEqual(len(node.generators[0].ifs), 1)

    def test_numbers_texts_and_is(self):
        for name, node in nodes(ast.Constant):
            self.assertIn(type(node.value), (int, str, bool, type(None)), (name, node.lineno))
            self.assertNotIn("%", str(node.value))
        for name, node in nodes((ast.Div, ast.Pow)):
            self.fail((name, "/ or **"))
        for name, node in nodes(ast.Compare):
            for operator, right in zip(node.ops, node.comparators):
                if isinstance(operator, (ast.Is, ast.IsNot)):
                    self.assertIsInstance(right, ast.Constant)


class Names(unittest.TestCase):
    def test_names_of_pythons_own(self):
        for name, tree in trees():
            for node in ast.walk(tree):
                if isinstance(node, ast.Name):
                    self.assertNotIn(node.id, NO_NAMES)
                    if node.id in dir(builtins):
                        self.assertIn(node.id, BUILTINS, (name, node.lineno))
                        self.assertIsInstance(node.ctx, ast.Load, (name, node.lineno))
                    self.assertFalse(node.id.startswith("_"), node.id)
                if isinstance(node, ast.arg):
                    self.assertNotIn(node.arg, dir(builtins))

    def test_no_local_is_called_like_what_stands_at_the_top(self):
        for name, tree in trees():
            top = {node.name for node in tree.body if isinstance(node, (ast.FunctionDef, ast.ClassDef))}
            top |= {alias.name for node in tree.body if isinstance(node, ast.ImportFrom) for alias in node.names}
            for node in ast.walk(tree):
                if isinstance(node, ast.Name) and isinstance(node.ctx, ast.Store):
                    self.assertNotIn(node.id, top, name)
                if isinstance(node, ast.arg):
                    self.assertNotIn(node.arg, top, name)
                if isinstance(node, ast.ExceptHandler):
                    self.assertNotIn(node.name, top, name)

    def test_methods_and_values(self):
        methods = {part.name for name, node in nodes(ast.ClassDef) for part in node.body
                   if isinstance(part, ast.FunctionDef)}
        stored = {node.attr for name, node in nodes(ast.Attribute) if isinstance(node.ctx, ast.Store)}
        self.assertEqual(methods & stored, set())
        pythons = {word for kind in (str, int, list, dict, set, bytes, tuple) for word in dir(kind)}
        self.assertEqual((methods - {"__init__"} | stored) & (pythons | set(NO_NAMES)), set())
        for name, node in nodes(ast.Attribute):
            self.assertIn(node.attr, methods | stored | set(METHODS), (name, node.lineno))

    def test_what_a_loop_walks_is_not_changed_in_it(self):
        for name, loop in nodes(ast.For):
            walked = {node.id for node in ast.walk(loop.iter) if isinstance(node, ast.Name)}
            for node in [node for part in loop.body for node in ast.walk(part)]:
                if isinstance(node, ast.Call) and isinstance(node.func, ast.Attribute):
                    changes = node.func.attr in ("append", "extend", "pop", "insert", "remove", "clear", "update")
                    self.assertFalse(changes and ast.unparse(node.func.value) in walked, (name, node.lineno))
                if isinstance(node, ast.Subscript) and isinstance(node.ctx, ast.Store):
                    self.assertNotIn(ast.unparse(node.value), walked, (name, node.lineno))


if __name__ == "__main__":
    unittest.main()
