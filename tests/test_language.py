"""The package keeps to the small part of Python that it is written in, as far as a look at its files can tell."""

import ast
import pathlib
import re
import unittest

PACKAGE = pathlib.Path(__file__).resolve().parent.parent / "skihire"

STATEMENTS = (
    ast.FunctionDef, ast.ClassDef, ast.ImportFrom, ast.Assign, ast.AugAssign, ast.If, ast.While, ast.For, ast.Return,
    ast.Break, ast.Continue, ast.Pass, ast.Raise, ast.Try, ast.Expr,
)

EXPRESSIONS = (
    ast.Constant, ast.Name, ast.List, ast.Tuple, ast.Dict, ast.BinOp, ast.UnaryOp, ast.BoolOp, ast.Compare, ast.IfExp,
    ast.Call, ast.Attribute, ast.Subscript, ast.Slice, ast.ListComp, ast.JoinedStr, ast.FormattedValue, ast.Lambda,
)

BUILT_IN = """len range enumerate zip min max sum abs sorted reversed int str bool list tuple dict isinstance ord repr any
all divmod Exception ValueError KeyError IndexError LookupError ZeroDivisionError ArithmeticError OverflowError
RuntimeError NotImplementedError""".split()

METHODS = """append clear copy count endswith extend find get index insert isalnum isalpha isdigit islower isspace isupper
items join keys ljust lower lstrip partition pop remove replace reverse rfind rjust rpartition rsplit rstrip setdefault
split splitlines startswith strip update upper values zfill bit_length""".split()

WORDS = """type typing typing_extensions enum Enum IntEnum StrEnum Flag IntFlag Generic Protocol ABC ABCMeta namedtuple
NamedTuple TypedDict TYPE_CHECKING abstractmethod""".split()


def files():
    return sorted(PACKAGE.glob("*.py"))


def tree_of(path):
    return ast.parse(path.read_text(encoding="utf-8"))


def bound_at_top(tree):
    names = []
    for node in tree.body:
        if isinstance(node, (ast.FunctionDef, ast.ClassDef)):
            names.append(node.name)
        elif isinstance(node, ast.ImportFrom):
            names.extend(alias.name for alias in node.names)
        elif isinstance(node, ast.Assign):
            names.append(node.targets[0].id)
    return names


def bound_within(function):
    names = [argument.arg for argument in function.args.args]
    names += [node.id for node in ast.walk(function) if isinstance(node, ast.Name) and isinstance(node.ctx, ast.Store)]
    return names


def plain_value(node):
    if isinstance(node, (ast.Tuple, ast.List)):
        return all(plain_value(part) for part in node.elts)
    if isinstance(node, ast.UnaryOp):
        return isinstance(node.op, ast.USub) and isinstance(node.operand, ast.Constant)
    return isinstance(node, ast.Constant)


class LanguageTest(unittest.TestCase):
    def each_node(self):
        for path in files():
            for node in ast.walk(tree_of(path)):
                yield "%s:%s" % (path.name, getattr(node, "lineno", 0)), node

    def test_nothing_but_plain_files_lies_in_the_package(self):
        names = [path.name for path in PACKAGE.iterdir() if path.name != "__pycache__"]
        self.assertIn("__init__.py", names)
        for name in names:
            self.assertRegex(name, r"^(__init__|[a-z][a-z0-9_]*)\.py$")
            self.assertNotRegex(name, r"^(test|site|conftest)")

    def test_sizes_and_signs(self):
        for path in files():
            text = path.read_bytes().decode("ascii")
            self.assertLessEqual(text.count("\n"), 400, path.name)
            self.assertRegex(text, r"\A[\n -~]*\n\Z", path.name)
            for row in text.split("\n"):
                self.assertLessEqual(len(row), 120, path.name)
        for where, node in self.each_node():
            if isinstance(node, ast.FunctionDef):
                self.assertLessEqual(node.end_lineno - node.lineno + 1, 40, where)

    def test_words_that_stand_nowhere(self):
        for path in files():
            words = re.findall(r"\w+", path.read_text())
            self.assertEqual([word for word in words if word in WORDS], [], path.name)

    def test_statements_and_expressions(self):
        for where, node in self.each_node():
            if isinstance(node, ast.stmt):
                self.assertIsInstance(node, STATEMENTS, where)
            if isinstance(node, ast.expr):
                self.assertIsInstance(node, EXPRESSIONS, where)
            if isinstance(node, ast.Assign):
                self.assertEqual(len(node.targets), 1, where)
                self.assertNotIsInstance(node.targets[0], (ast.Tuple, ast.List), where)
            if isinstance(node, (ast.For, ast.While)):
                self.assertEqual(node.orelse, [], where)
            if isinstance(node, ast.Constant):
                self.assertIsInstance(node.value, (int, str, bool, type(None)), where)
            if isinstance(node, (ast.Div, ast.MatMult, ast.Pow)):
                self.fail(where)
            if isinstance(node, ast.Compare) and any(isinstance(op, (ast.Is, ast.IsNot)) for op in node.ops):
                self.assertIn(node.comparators[0].value, (None, True, False), where)

    def test_functions_and_classes(self):
        for where, node in self.each_node():
            if isinstance(node, ast.FunctionDef):
                plain = node.args
                self.assertFalse(plain.vararg or plain.kwarg or plain.kwonlyargs or plain.posonlyargs, where)
            if isinstance(node, (ast.FunctionDef, ast.ClassDef)):
                self.assertEqual(node.decorator_list, [], where)
            if isinstance(node, ast.ClassDef):
                self.assertLessEqual(len(node.bases), 1, where)
                for part in node.body:
                    self.assertIsInstance(part, (ast.FunctionDef, ast.Expr, ast.Pass), where)

    def test_the_top_of_a_file(self):
        for path in files():
            tree = tree_of(path)
            names = bound_at_top(tree)
            self.assertEqual(sorted(names), sorted(set(names)), path.name)
            for node in tree.body:
                self.assertIsInstance(node, (ast.Expr, ast.ImportFrom, ast.FunctionDef, ast.ClassDef, ast.Assign))
                if isinstance(node, ast.Assign):
                    self.assertTrue(plain_value(node.value), "%s:%d" % (path.name, node.lineno))

    def test_imports_are_from_the_file_that_defines_the_name_and_go_round_in_no_ring(self):
        drawn = {}
        for path in files():
            drawn[path.stem] = []
            for node in ast.walk(tree_of(path)):
                if isinstance(node, ast.ImportFrom):
                    self.assertEqual((node.level, node.module.split(".")[0]), (0, "skihire"), path.name)
                    source = node.module.split(".")[1]
                    drawn[path.stem].append(source)
                    defined = tree_of(PACKAGE / (source + ".py"))
                    own = bound_at_top(ast.Module([n for n in defined.body if not isinstance(n, ast.ImportFrom)], []))
                    self.assertEqual([a.name for a in node.names if a.name not in own or a.asname], [], path.name)
        self.assertEqual(drawn["__init__"], [])
        while drawn:
            ends = [name for name in drawn if not any(source in drawn for source in drawn[name])]
            self.assertNotEqual(ends, [], drawn)
            drawn = {name: drawn[name] for name in drawn if name not in ends}

    def test_names(self):
        own_built_in = set(dir(__builtins__)) if not isinstance(__builtins__, dict) else set(__builtins__)
        for path in files():
            tree = tree_of(path)
            top = bound_at_top(tree)
            for function in [node for node in ast.walk(tree) if isinstance(node, ast.FunctionDef)]:
                if function.name != "__init__":
                    self.assertRegex(function.name, r"^[a-z][a-z0-9_]*$")
                for name in bound_within(function):
                    self.assertRegex(name, r"^[a-z][a-z0-9_]*$", path.name)
                    self.assertNotIn(name, top, path.name)
                    self.assertNotIn(name, own_built_in, path.name)
            known = set(top) | set(BUILT_IN)
            for function in [node for node in tree.body if isinstance(node, (ast.FunctionDef, ast.ClassDef))]:
                within = set()
                for node in ast.walk(function):
                    if isinstance(node, ast.FunctionDef):
                        within |= set(bound_within(node))
                used = {n.id for n in ast.walk(function) if isinstance(n, ast.Name) and isinstance(n.ctx, ast.Load)}
                self.assertEqual(used - within - known, set(), path.name)

    def test_methods_and_values_of_objects(self):
        methods = set()
        values = set()
        for where, node in self.each_node():
            if isinstance(node, ast.ClassDef):
                methods |= {part.name for part in node.body if isinstance(part, ast.FunctionDef)}
            if isinstance(node, ast.Attribute) and isinstance(node.ctx, ast.Store):
                values.add(node.attr)
        for where, node in self.each_node():
            if isinstance(node, ast.Call) and isinstance(node.func, ast.Attribute):
                self.assertIn(node.func.attr, methods | set(METHODS), where)
        self.assertEqual(methods & values, set())
        for kind in (str, int, list, dict, set, bytes, tuple):
            self.assertEqual(values & set(dir(kind)), set(), kind)


if __name__ == "__main__":
    unittest.main()
