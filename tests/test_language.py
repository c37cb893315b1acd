"""The package's files keep to the part of Python that they are held to, as far as a test can see it."""

import ast
import builtins
import pathlib
import re
import unittest

PACKAGE = pathlib.Path(__file__).resolve().parent.parent / "valuetwigs"

STATEMENTS = (ast.Assign, ast.AugAssign, ast.If, ast.While, ast.For, ast.Return, ast.Break, ast.Continue, ast.Pass,
              ast.Raise, ast.Try, ast.Expr, ast.FunctionDef, ast.ClassDef, ast.ImportFrom)

EXPRESSIONS = (ast.Constant, ast.List, ast.Tuple, ast.Dict, ast.BinOp, ast.UnaryOp, ast.BoolOp, ast.Compare, ast.IfExp,
               ast.Call, ast.Attribute, ast.Subscript, ast.Slice, ast.ListComp, ast.Name, ast.Lambda, ast.JoinedStr,
               ast.FormattedValue)

BUILTINS = """len range enumerate zip min max sum abs sorted reversed int str bool list tuple dict set frozenset isinstance
ord repr any all divmod Exception ValueError TypeError KeyError IndexError LookupError ZeroDivisionError ArithmeticError
OverflowError RuntimeError NotImplementedError AttributeError StopIteration""".split()

METHODS = """append clear copy count endswith extend find get index insert isalnum isalpha isdigit islower isspace isupper
items join keys ljust lower lstrip partition pop remove replace reverse rfind rjust rpartition rsplit rstrip setdefault
split splitlines startswith strip update upper values zfill bit_length""".split()

WORDS = """type typing typing_extensions enum Enum IntEnum StrEnum Flag IntFlag Generic Protocol ABC ABCMeta namedtuple
NamedTuple TypedDict TYPE_CHECKING abstractmethod""".split()


def files():
    return sorted(PACKAGE.rglob("*.py"))


def nodes(path, kinds):
    return [node for node in ast.walk(ast.parse(path.read_text())) if isinstance(node, kinds)]


def is_docstring(node):
    return isinstance(node, ast.Expr) and isinstance(node.value, ast.Constant) and isinstance(node.value.value, str)


def bound_names(path):
    names = [node.name for node in nodes(path, (ast.FunctionDef, ast.ClassDef))]
    names += [node.arg for node in nodes(path, ast.arg)]
    names += [node.id for node in nodes(path, ast.Name) if isinstance(node.ctx, ast.Store)]
    return names + [node.attr for node in nodes(path, ast.Attribute) if isinstance(node.ctx, ast.Store)]


class Language(unittest.TestCase):

    def test_files_and_signs(self):
        self.assertIn(PACKAGE / "__init__.py", files())
        for path in PACKAGE.rglob("*"):
            if path.name != "__pycache__" and path.suffix != ".pyc":
                self.assertRegex(path.name, r"^[a-z0-9_]+\.py$")
        for path in files():
            text = path.read_bytes()
            self.assertTrue(all(byte == 10 or 32 <= byte <= 126 for byte in text), path)

    def test_sizes(self):
        for path in files():
            lines = path.read_text().split("\n")
            self.assertLessEqual(len(lines), 400, path)
            self.assertLessEqual(max(len(line) for line in lines), 120, path)
            for node in nodes(path, ast.FunctionDef):
                self.assertLessEqual(node.end_lineno - node.lineno + 1, 40, (path, node.name))

    def test_words_that_stand_nowhere(self):
        for path in files():
            found = re.findall(r"\w+", path.read_text())
            self.assertEqual([word for word in found if word in WORDS], [], path)
            self.assertNotRegex(path.read_text(), "dataclass|overload|contextmanager")

    def test_statements_and_expressions(self):
        for path in files():
            for node in nodes(path, ast.stmt):
                self.assertIsInstance(node, STATEMENTS, (path, node.lineno))
                if isinstance(node, ast.Expr):
                    self.assertTrue(is_docstring(node) or isinstance(node.value, ast.Call), (path, node.lineno))
                if isinstance(node, ast.Assign):
                    self.assertEqual(len(node.targets), 1, (path, node.lineno))
                if isinstance(node, (ast.For, ast.While)):
                    self.assertEqual(node.orelse, [], (path, node.lineno))
            for node in nodes(path, ast.expr):
                self.assertIsInstance(node, EXPRESSIONS, (path, node.lineno))
            self.assertEqual(nodes(path, ast.Div), [], path)

    def test_constants(self):
        for path in files():
            for node in nodes(path, ast.Constant):
                self.assertIn(type(node.value), (int, str, bool, type(None)), (path, node.lineno))

    def test_imports(self):
        for path in files():
            for node in nodes(path, ast.ImportFrom):
                self.assertEqual(node.level, 0, path)
                source = PACKAGE.parent / (node.module.replace(".", "/") + ".py")
                self.assertIn(source, files())
                own = ast.parse(source.read_text()).body
                defined = [row.name for row in own if isinstance(row, (ast.FunctionDef, ast.ClassDef))]
                defined += [row.targets[0].id for row in own if isinstance(row, ast.Assign)]
                for alias in node.names:
                    self.assertIn(alias.name, defined, path)
                    self.assertIsNone(alias.asname, path)

    def test_no_file_draws_from_itself_in_any_steps(self):
        drawn = {path.stem: [node.module.split(".")[-1] for node in nodes(path, ast.ImportFrom)] for path in files()}
        while drawn:
            free = [name for name in drawn if not any(other in drawn for other in drawn[name])]
            self.assertNotEqual(free, [], drawn)
            for name in free:
                drawn.pop(name)

    def test_imports_are_used(self):
        for path in files():
            used = [node.id for node in nodes(path, ast.Name)]
            for node in nodes(path, ast.ImportFrom):
                for alias in node.names:
                    self.assertIn(alias.name, used, path)

    def test_names(self):
        for path in files():
            for name in bound_names(path):
                if name != "__init__":
                    self.assertRegex(name, r"^[A-Za-z][A-Za-z0-9_]*$", path)
                self.assertNotIn(name, dir(builtins), path)

    def test_names_that_are_read(self):
        for path in files():
            known = set(bound_names(path)) | set(BUILTINS)
            for node in nodes(path, ast.ImportFrom):
                known |= {alias.name for alias in node.names}
            for node in nodes(path, ast.Name):
                self.assertIn(node.id, known, (path, node.lineno))

    def test_methods(self):
        own = {node.name for path in files() for node in nodes(path, ast.FunctionDef)}
        for path in files():
            for node in nodes(path, ast.Call):
                if isinstance(node.func, ast.Attribute):
                    self.assertIn(node.func.attr, own | set(METHODS), (path, node.lineno))

    def test_plain_functions(self):
        for path in files():
            for node in nodes(path, (ast.FunctionDef, ast.ClassDef)):
                self.assertEqual(node.decorator_list, [], (path, node.name))
            for node in nodes(path, ast.arguments):
                self.assertTrue(node.vararg is None and node.kwarg is None and node.kwonlyargs == [], path)

    def test_a_call_stands_in_its_own_file_alone(self):
        for call in ("form", "run", "differ", "apply", "back"):
            places = [path.name for path in files() for row in ast.parse(path.read_text()).body
                      if isinstance(row, (ast.FunctionDef, ast.ClassDef)) and row.name == call]
            self.assertEqual(places, ["twigs.py"])

    def test_no_name_is_a_method_here_and_a_value_there(self):
        methods = {node.name for path in files() for of_class in nodes(path, ast.ClassDef) for node in of_class.body
                   if isinstance(node, ast.FunctionDef)}
        values = {node.attr for path in files() for node in nodes(path, ast.Attribute) if isinstance(node.ctx, ast.Store)}
        self.assertEqual(methods & values, set())
        python_own = {name for kind in (str, int, list, dict, set, bytes, tuple) for name in dir(kind)}
        self.assertEqual((methods | values) & python_own, {"__init__"})

    def test_no_parameter_or_local_is_called_like_a_class_or_an_import(self):
        for path in files():
            taken = {node.name for node in nodes(path, ast.ClassDef)}
            taken |= {alias.name for node in nodes(path, ast.ImportFrom) for alias in node.names}
            locals_too = [node.arg for node in nodes(path, ast.arg)]
            locals_too += [node.id for node in nodes(path, ast.Name) if isinstance(node.ctx, ast.Store)]
            self.assertEqual(taken & set(locals_too), set(), path)

    def test_values_are_given_through_a_local_name(self):
        for path in files():
            for node in nodes(path, ast.Attribute):
                if isinstance(node.ctx, ast.Store):
                    self.assertIsInstance(node.value, ast.Name, (path, node.lineno))
                    self.assertFalse(node.value.id[0].isupper(), (path, node.lineno))

    def test_one_plain_target_in_an_assignment(self):
        for path in files():
            for node in nodes(path, ast.Assign):
                self.assertNotIsInstance(node.targets[0], (ast.Tuple, ast.List), (path, node.lineno))

    def test_is_stands_beside_none_and_truths_alone(self):
        for path in files():
            for node in nodes(path, ast.Compare):
                if any(isinstance(sign, (ast.Is, ast.IsNot)) for sign in node.ops):
                    self.assertTrue(all(isinstance(side, ast.Constant) and side.value in (None, True, False)
                                        for side in node.comparators), (path, node.lineno))

    def test_texts_have_no_percent(self):
        for path in files():
            for node in nodes(path, ast.Constant):
                self.assertFalse(isinstance(node.value, str) and "%" in node.value, (path, node.lineno))

    def test_what_stands_at_a_top_is_read_alone(self):
        tops = {row.targets[0].id for path in files() for row in ast.parse(path.read_text()).body
                if isinstance(row, ast.Assign) and isinstance(row.value, (ast.List, ast.Tuple, ast.Dict))}
        for path in files():
            parents = {child: node for node in ast.walk(ast.parse(path.read_text())) for child in ast.iter_child_nodes(node)}
            for child, parent in parents.items():
                if isinstance(child, ast.Name) and child.id in tops and isinstance(child.ctx, ast.Load):
                    self.assertTrue(self.is_reading(child, parent), (path, child.lineno, child.id))

    def is_reading(self, child, parent):
        if isinstance(parent, ast.Subscript):
            return parent.value is child and isinstance(parent.ctx, ast.Load)
        if isinstance(parent, ast.Compare):
            return child in parent.comparators
        if isinstance(parent, (ast.For, ast.comprehension)):
            return parent.iter is child
        if isinstance(parent, ast.Attribute):
            return parent.attr in ("index", "get", "count")
        return isinstance(parent, ast.Call) and parent.func.id in ("len", "enumerate")

    def test_methods_are_called_where_they_stand(self):
        methods = {node.name for path in files() for of_class in nodes(path, ast.ClassDef) for node in of_class.body
                   if isinstance(node, ast.FunctionDef)}
        for path in files():
            tree = ast.parse(path.read_text())
            called = {id(node.func) for node in ast.walk(tree) if isinstance(node, ast.Call)}
            for node in ast.walk(tree):
                if isinstance(node, ast.Attribute) and node.attr in methods | set(METHODS) - {"index"}:
                    self.assertIn(id(node), called, (path, node.lineno, node.attr))

    def test_walks_are_not_kept(self):
        for path in files():
            tree = ast.parse(path.read_text())
            for node in ast.walk(tree):
                if isinstance(node, (ast.Assign, ast.Return)) and isinstance(node.value, ast.Call):
                    name = node.value.func.id if isinstance(node.value.func, ast.Name) else node.value.func.attr
                    self.assertNotIn(name, ("zip", "enumerate", "reversed", "range", "items", "keys", "values", "set"), path)


if __name__ == "__main__":
    unittest.main()
