"""The form of the package's files: the small part of Python that they keep to, as far as a walk can see it."""

import ast
import builtins
import pathlib
import re
import unittest

PACKAGE = pathlib.Path(__file__).resolve().parent.parent / "sheetunits"

ALLOWED_BUILTINS = set("""len range enumerate zip min max sum abs sorted reversed int str bool list tuple dict set
    frozenset isinstance ord repr any all divmod Exception ValueError TypeError KeyError IndexError LookupError
    ZeroDivisionError ArithmeticError OverflowError RuntimeError NotImplementedError AttributeError StopIteration""".split())

ALLOWED_METHODS = set("""append clear copy count endswith extend find get index insert isalnum isalpha isdigit islower
    isspace isupper items join keys ljust lower lstrip partition pop remove replace reverse rfind rjust rpartition rsplit
    rstrip setdefault split splitlines startswith strip update upper values zfill bit_length""".split())

FORBIDDEN_WORDS = set("""type typing typing_extensions enum Enum IntEnum StrEnum Flag IntFlag Generic Protocol ABC ABCMeta
    namedtuple NamedTuple TypedDict TYPE_CHECKING abstractmethod""".split())

FORBIDDEN_NAMES = set("""register mro elements open input version_info with_traceback add_note attrgetter breakpoint
    builtins compile copyright credits delattr dir eval exec exit gc getattr globals hasattr help id importlib license
    locals methodcaller os quit setattr super vars sys format format_map""".split())

ALLOWED_NODES = (
    ast.Module, ast.ImportFrom, ast.alias, ast.FunctionDef, ast.ClassDef, ast.arguments, ast.arg, ast.Assign, ast.AugAssign,
    ast.If, ast.While, ast.For, ast.Return, ast.Break, ast.Continue, ast.Pass, ast.Raise, ast.Try, ast.ExceptHandler,
    ast.Expr, ast.Constant, ast.Name, ast.List, ast.Tuple, ast.Dict, ast.BinOp, ast.UnaryOp, ast.BoolOp, ast.Compare,
    ast.IfExp, ast.Call, ast.keyword, ast.Attribute, ast.Subscript, ast.Slice, ast.ListComp, ast.comprehension, ast.Lambda,
    ast.JoinedStr, ast.FormattedValue, ast.operator, ast.unaryop, ast.boolop, ast.cmpop, ast.expr_context)

OWN_UNDERSCORES = ("__init__", "__eq__", "__repr__", "__str__", "__len__")


def files():
    return sorted(PACKAGE.rglob("*.py"))


def walked():
    for path in files():
        for node in ast.walk(ast.parse(path.read_text(encoding="utf-8"))):
            yield f"{path.name}:{getattr(node, 'lineno', 0)}", node


class Files(unittest.TestCase):
    def test_only_plain_python_files(self):
        self.assertIn(PACKAGE / "__init__.py", files())
        for path in PACKAGE.rglob("*"):
            if "__pycache__" not in path.parts:
                self.assertRegex(path.name, r"^(__init__|[a-z][a-z0-9_]*)\.py$")
                self.assertNotIn(path.stem, dir(builtins))

    def test_signs_and_lengths(self):
        for path in files():
            text = path.read_bytes().decode("ascii")
            self.assertIsNone(re.search(r"[^ -~\n]", text), path.name)
            self.assertLessEqual(len(text.splitlines()), 400, path.name)
            for line in text.splitlines():
                self.assertLessEqual(len(line), 120, line)

    def test_words_that_stand_nowhere(self):
        for path in files():
            text = path.read_text(encoding="utf-8")
            self.assertFalse(FORBIDDEN_WORDS & set(re.findall(r"\w+", text)), path.name)
            self.assertIsNone(re.search("dataclass|overload|contextmanager", text), path.name)

    def test_top_of_a_module(self):
        for path in files():
            bound = []
            tree = ast.parse(path.read_text(encoding="utf-8"))
            self.assertTrue(ast.get_docstring(tree), path.name)
            for statement in tree.body[1:]:
                self.assertIsInstance(statement, (ast.ImportFrom, ast.FunctionDef, ast.ClassDef, ast.Assign))
                if isinstance(statement, ast.Assign):
                    ast.literal_eval(statement.value)
                    bound.append(statement.targets[0].id)
                elif isinstance(statement, ast.ImportFrom):
                    bound.extend(alias.name for alias in statement.names)
                else:
                    bound.append(statement.name)
            self.assertEqual(len(bound), len(set(bound)), path.name)

    def test_imports(self):
        drawn = {}
        for path in files():
            rows = [node for node in ast.walk(ast.parse(path.read_text())) if isinstance(node, ast.ImportFrom)]
            drawn[path.stem] = [row.module.split(".")[-1] for row in rows]
            for row in rows:
                self.assertEqual(row.level, 0)
                self.assertRegex(row.module, r"^sheetunits\.[a-z_]+$")
                source = (PACKAGE / (row.module.split(".")[1] + ".py")).read_text()
                for alias in row.names:
                    self.assertIsNone(alias.asname)
                    self.assertRegex(source, rf"(?m)^(def |class )?{alias.name}\b")
        while drawn:
            free = [name for name in drawn if not any(other in drawn for other in drawn[name])]
            self.assertTrue(free, f"drawn in a ring: {sorted(drawn)}")
            for name in free:
                drawn.pop(name)


class Code(unittest.TestCase):
    def test_statements_and_expressions(self):
        for where, node in walked():
            self.assertIsInstance(node, ALLOWED_NODES, where)
            self.assertNotIsInstance(node, (ast.Div, ast.MatMult), where)
            self.assertFalse(getattr(node, "decorator_list", []), where)
            if isinstance(node, (ast.For, ast.While)):
                self.assertFalse(node.orelse, where)
            if isinstance(node, ast.Try):
                self.assertFalse(node.finalbody, where)
            if isinstance(node, ast.Assign):
                self.assertEqual(len(node.targets), 1, where)
                self.assertIsInstance(node.targets[0], (ast.Name, ast.Attribute, ast.Subscript), where)
            if isinstance(node, ast.ListComp):
                self.assertEqual(len(node.generators), 1, where)
                self.assertLessEqual(len(node.generators[0].ifs), 1, where)
            if isinstance(node, ast.Compare) and any(isinstance(op, (ast.Is, ast.IsNot)) for op in node.ops):
                self.assertTrue(all(isinstance(part, ast.Constant) for part in node.comparators), where)
            if isinstance(node, ast.Constant):
                self.assertIn(node.value.__class__, (int, str, bool, None.__class__), where)
                self.assertNotIn("%", str(node.value), where)
            if isinstance(node, ast.Slice):
                self.assertIsNone(node.step, where)

    def test_functions(self):
        for where, node in walked():
            if isinstance(node, ast.FunctionDef):
                self.assertLessEqual(node.end_lineno - node.lineno + 1, 40, where)
            if isinstance(node, ast.arguments):
                self.assertFalse(node.vararg or node.kwarg or node.kwonlyargs or node.posonlyargs, where)
            if isinstance(node, ast.ClassDef):
                self.assertLessEqual(len(node.bases), 1, where)
                self.assertTrue(ast.get_docstring(node), where)
                for statement in node.body[1:]:
                    self.assertIsInstance(statement, ast.FunctionDef, where)

    def test_names(self):
        bound_names = dir(builtins)
        for where, node in walked():
            names = []
            if isinstance(node, (ast.FunctionDef, ast.ClassDef)):
                names = [node.name]
            elif isinstance(node, ast.arg):
                names = [node.arg]
            elif isinstance(node, ast.Attribute):
                names = [node.attr]
            elif isinstance(node, ast.Name):
                names = [node.id]
                if not isinstance(node.ctx, ast.Load):
                    self.assertNotIn(node.id, bound_names, where)
                elif node.id in bound_names:
                    self.assertIn(node.id, ALLOWED_BUILTINS, where)
            for name in names:
                self.assertNotIn(name, FORBIDDEN_NAMES, where)
                if name not in OWN_UNDERSCORES:
                    self.assertRegex(name, r"^[A-Za-z][A-Za-z0-9_]*$", where)
            if isinstance(node, ast.arg):
                self.assertNotIn(node.arg, bound_names, where)

    def test_locals_are_not_called_like_what_the_file_binds(self):
        for path in files():
            tree = ast.parse(path.read_text())
            top = set()
            for statement in tree.body:
                if isinstance(statement, ast.ImportFrom):
                    top.update(alias.name for alias in statement.names)
                elif isinstance(statement, (ast.FunctionDef, ast.ClassDef)):
                    top.add(statement.name)
            for node in ast.walk(tree):
                if isinstance(node, ast.arg):
                    self.assertNotIn(node.arg, top, path.name)
                if isinstance(node, ast.Name) and isinstance(node.ctx, ast.Store):
                    self.assertNotIn(node.id, top, path.name)

    def test_methods_and_values(self):
        methods, stored = set(), set()
        for where, node in walked():
            if isinstance(node, ast.ClassDef):
                names = [statement.name for statement in node.body if isinstance(statement, ast.FunctionDef)]
                self.assertEqual(len(names), len(set(names)), where)
                methods.update(names)
            if isinstance(node, ast.Attribute) and isinstance(node.ctx, ast.Store):
                stored.add(node.attr)
        self.assertFalse(methods & stored)
        taken = set(dir(str) + dir(int) + dir(list) + dir(dict) + dir(set) + dir(bytes))
        self.assertFalse(((methods | stored) - set(OWN_UNDERSCORES)) & taken)
        for where, node in walked():
            if isinstance(node, ast.Call) and isinstance(node.func, ast.Attribute):
                self.assertIn(node.func.attr, ALLOWED_METHODS | methods, where)


if __name__ == "__main__":
    unittest.main()
