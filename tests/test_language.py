"""The package keeps to the small part of Python it is written in, as far as a reader of its files can see."""

import ast
import builtins
import pathlib
import re
import subprocess
import sys
import unittest

PACKAGE = pathlib.Path(__file__).resolve().parent.parent / "daysums"
FILES = sorted(path for path in PACKAGE.rglob("*.py"))

STATEMENTS = (
    ast.Module, ast.FunctionDef, ast.ClassDef, ast.ImportFrom, ast.Assign, ast.AugAssign, ast.If, ast.While,
    ast.For, ast.Return, ast.Break, ast.Continue, ast.Pass, ast.Raise, ast.Try, ast.Expr,
)
EXPRESSIONS = (
    ast.Constant, ast.List, ast.Tuple, ast.Dict, ast.BinOp, ast.UnaryOp, ast.BoolOp, ast.Compare, ast.IfExp,
    ast.Call, ast.Attribute, ast.Subscript, ast.Slice, ast.ListComp, ast.Name, ast.Lambda,
)
OWN_NAMES = (
    "len range enumerate zip min max sum abs sorted reversed int str bool list tuple dict set frozenset isinstance "
    "ord repr any all divmod ValueError KeyError IndexError LookupError ZeroDivisionError"
).split()
OWN_METHODS = (
    "append clear copy count endswith extend find get index insert isalnum isalpha isdigit islower isspace isupper "
    "items join keys ljust lower lstrip partition pop remove replace reverse rfind rjust rpartition rsplit rstrip "
    "setdefault split splitlines startswith strip update upper values zfill bit_length"
).split()
WORDS_LEFT_OUT = (
    "type typing typing_extensions enum Enum IntEnum StrEnum Flag IntFlag Generic Protocol ABC ABCMeta namedtuple "
    "NamedTuple TypedDict TYPE_CHECKING abstractmethod"
).split()


def nodes():
    for path in FILES:
        for node in ast.walk(ast.parse(path.read_text("ascii"))):
            yield path.name, node


def parts(*kinds):
    return [(name, node) for name, node in nodes() if isinstance(node, kinds)]


def trees():
    return {path.stem: ast.parse(path.read_text("ascii")) for path in FILES}


def bound_at_top(tree):
    names = []
    for node in tree.body:
        if isinstance(node, (ast.FunctionDef, ast.ClassDef)):
            names.append(node.name)
        if isinstance(node, ast.Assign):
            names += [target.id for target in node.targets]
        if isinstance(node, ast.ImportFrom):
            names += [part.name for part in node.names]
    return names


def is_plain_value(node):
    if isinstance(node, ast.Tuple):
        return all(is_plain_value(part) for part in node.elts)
    if isinstance(node, ast.UnaryOp):
        return isinstance(node.op, ast.USub) and is_plain_value(node.operand)
    return isinstance(node, ast.Constant)


def called(node):
    return node.func.id if isinstance(node, ast.Call) and isinstance(node.func, ast.Name) else None


class TheFiles(unittest.TestCase):
    def test_only_plain_files(self):
        for path in PACKAGE.rglob("*"):
            if "__pycache__" not in path.parts:
                self.assertRegex(path.name, r"^([a-z][a-z0-9_]*|__init__|__main__)\.py$")

    def test_size_and_signs(self):
        for path in FILES:
            rows = path.read_text("ascii").split("\n")
            self.assertLessEqual(len(rows), 400, path.name)
            for row in rows:
                self.assertRegex(row, r"^[ -~]{0,120}$", path.name)

    def test_words_left_out(self):
        for path in FILES:
            words = set(re.findall(r"\w+", path.read_text("ascii")))
            self.assertEqual(words & set(WORDS_LEFT_OUT), set(), path.name)


class TheTop(unittest.TestCase):
    def test_only_plain_values_functions_and_classes(self):
        for name, tree in trees().items():
            self.assertIsNotNone(ast.get_docstring(tree), name)
            for node in tree.body[1:]:
                self.assertIsInstance(node, (ast.ImportFrom, ast.FunctionDef, ast.ClassDef, ast.Assign), name)
                if isinstance(node, ast.Assign):
                    self.assertTrue(is_plain_value(node.value), (name, node.lineno))

    def test_each_name_is_bound_once(self):
        for name, tree in trees().items():
            names = bound_at_top(tree)
            self.assertEqual(sorted(names), sorted(set(names)), name)

    def test_imports_are_from_the_file_that_defines_and_never_in_a_ring(self):
        drawn = {}
        for name, tree in trees().items():
            imports = [node for node in tree.body if isinstance(node, ast.ImportFrom)]
            drawn[name] = [node.module.split(".")[1] for node in imports]
            for node in imports:
                defined = [own.name if hasattr(own, "name") else own.targets[0].id
                           for own in trees()[node.module.split(".")[1]].body
                           if isinstance(own, (ast.FunctionDef, ast.ClassDef, ast.Assign))]
                for part in node.names:
                    self.assertIn(part.name, defined, name)
                    self.assertIsNone(part.asname, name)
        while drawn:
            free = [name for name in drawn if not [other for other in drawn[name] if other in drawn]]
            self.assertNotEqual(free, [], drawn)
            drawn = {name: others for name, others in drawn.items() if name not in free}

    def test_no_local_is_called_like_a_name_of_the_top(self):
        for name, tree in trees().items():
            top = bound_at_top(tree)
            for function in [node for node in ast.walk(tree) if isinstance(node, ast.FunctionDef)]:
                for node in ast.walk(function):
                    if isinstance(node, ast.arg):
                        self.assertNotIn(node.arg, top, name)
                    if isinstance(node, ast.Name) and isinstance(node.ctx, ast.Store):
                        self.assertNotIn(node.id, top, name)

    def test_classes_hold_methods_alone(self):
        for name, node in parts(ast.ClassDef):
            methods = [part.name for part in node.body if isinstance(part, ast.FunctionDef)]
            self.assertEqual(len(methods), len(node.body), name)
            self.assertEqual(len(methods), len(set(methods)), name)
            self.assertEqual(node.bases + node.keywords + node.decorator_list, [], name)
            values = [part.attr for part in ast.walk(node)
                      if isinstance(part, ast.Attribute) and isinstance(part.ctx, ast.Store)]
            self.assertEqual(set(values) & set(methods), set(), name)

    def test_nothing_else_is_imported(self):
        told = subprocess.run(
            [sys.executable, "-S", "-c",
             "import sys; known = set(sys.modules); import daysums.door; print(*sorted(set(sys.modules) - known))"],
            cwd=PACKAGE.parent, capture_output=True, text=True, check=True,
        )
        self.assertEqual(told.stdout.split(), ["daysums", "daysums.day", "daysums.door", "daysums.stays"])


class TheCode(unittest.TestCase):
    def test_statements_and_expressions(self):
        for name, node in nodes():
            if isinstance(node, ast.stmt):
                self.assertIsInstance(node, STATEMENTS, name)
            if isinstance(node, ast.expr):
                self.assertIsInstance(node, EXPRESSIONS, name)
            if isinstance(node, (ast.BinOp, ast.AugAssign)):
                self.assertNotIsInstance(node.op, (ast.Div, ast.MatMult), name)
            if isinstance(node, ast.Constant):
                self.assertNotIsInstance(node.value, (float, complex, bytes), name)

    def test_functions(self):
        for name, node in nodes():
            if isinstance(node, ast.FunctionDef):
                self.assertLessEqual(node.end_lineno - node.lineno + 1, 40, (name, node.name))
                self.assertEqual(node.decorator_list, [])
                given = node.args
                self.assertFalse(given.vararg or given.kwarg or given.kwonlyargs or given.posonlyargs)

    def test_imports_are_the_packages_own(self):
        for name, node in nodes():
            if isinstance(node, ast.ImportFrom):
                self.assertEqual(node.level, 0, name)
                self.assertTrue(node.module.startswith("daysums."), name)
                self.assertNotIn("*", [part.name for part in node.names], name)

    def test_names(self):
        own = [name for name in dir(builtins) if name not in OWN_NAMES]
        for name, node in nodes():
            if isinstance(node, ast.Name):
                self.assertNotIn(node.id, own, name)
                self.assertFalse(node.id.startswith("_"), (name, node.id))
                if isinstance(node.ctx, ast.Store):
                    self.assertFalse(hasattr(builtins, node.id), (name, node.id))
            if isinstance(node, ast.arg):
                self.assertFalse(hasattr(builtins, node.arg), (name, node.arg))

    def test_list_comprehensions(self):
        for name, node in parts(ast.ListComp):
            self.assertEqual(len(node.generators), 1, name)
            self.assertLessEqual(len(node.generators[0].ifs), 1, name)

    def test_one_target(self):
        for name, node in parts(ast.Assign):
            self.assertEqual(len(node.targets), 1, name)
            self.assertIsInstance(node.targets[0], (ast.Name, ast.Attribute, ast.Subscript), name)

    def test_no_else_behind_a_loop(self):
        for name, node in parts(ast.For, ast.While):
            self.assertEqual(node.orelse, [], name)

    def test_is_stands_beside_none_true_and_false(self):
        for name, node in parts(ast.Compare):
            for op, right in zip(node.ops, node.comparators):
                if isinstance(op, (ast.Is, ast.IsNot)):
                    self.assertIsInstance(right, ast.Constant, name)

    def test_walked_at_once(self):
        walked = "range zip enumerate reversed".split()
        for name, tree in trees().items():
            fine = []
            for node in ast.walk(tree):
                if isinstance(node, (ast.For, ast.comprehension)):
                    fine.append(node.iter)
                if called(node) in "list tuple dict sorted sum any all enumerate zip min max".split():
                    fine += node.args[:1]
            for node in ast.walk(tree):
                if called(node) in walked:
                    self.assertIn(node, fine, (name, node.lineno))

    def test_sets_are_not_kept(self):
        for name, tree in trees().items():
            fine = [node.args[0] for node in ast.walk(tree) if called(node) in ("len", "sorted")]
            for node in ast.walk(tree):
                if called(node) in ("set", "frozenset"):
                    self.assertIn(node, fine, (name, node.lineno))

    def test_keywords(self):
        for name, node in parts(ast.Call):
            for keyword in node.keywords:
                self.assertIn((called(node), keyword.arg), [("max", "default"), ("min", "default")], name)

    def test_methods(self):
        defined = [node.name for name, node in nodes() if isinstance(node, ast.FunctionDef)]
        for name, node in nodes():
            if isinstance(node, ast.Call) and isinstance(node.func, ast.Attribute):
                self.assertIn(node.func.attr, OWN_METHODS + defined, name)


if __name__ == "__main__":
    unittest.main()
