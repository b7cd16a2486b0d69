"""The package's own files keep to the small part of Python that the program is written in, as far as can be seen."""

import ast
import builtins
import os
import re
import unittest

from helper import ROOT

PACKAGE = os.path.join(ROOT, "proofnetsdesk")

STATEMENTS = (ast.Assign, ast.AugAssign, ast.If, ast.While, ast.For, ast.Return, ast.Break, ast.Continue, ast.Pass,
              ast.Raise, ast.Try, ast.Expr, ast.FunctionDef, ast.ClassDef, ast.ImportFrom)
EXPRESSIONS = (ast.Constant, ast.List, ast.Tuple, ast.Dict, ast.Set, ast.BinOp, ast.UnaryOp, ast.Compare, ast.BoolOp,
               ast.IfExp, ast.Call, ast.Attribute, ast.Subscript, ast.Slice, ast.ListComp, ast.JoinedStr,
               ast.FormattedValue, ast.Name, ast.Lambda)
OWN_NAMES = """len range enumerate zip min max sum abs sorted reversed int str bool list tuple dict set frozenset
    isinstance ord repr any all divmod Exception ValueError TypeError KeyError IndexError LookupError
    ZeroDivisionError ArithmeticError OverflowError RuntimeError NotImplementedError AttributeError
    StopIteration""".split()
METHODS = """append clear copy count endswith extend find get index insert isalnum isalpha isdigit islower isspace
    isupper items join keys ljust lower lstrip partition pop remove replace reverse rfind rjust rpartition rsplit
    rstrip setdefault split splitlines startswith strip update upper values zfill bit_length""".split()
WORDS = """type typing typing_extensions enum Enum IntEnum StrEnum Flag IntFlag Generic Protocol ABC ABCMeta namedtuple
    NamedTuple TypedDict TYPE_CHECKING abstractmethod""".split()
NOT_AS_NAMES = """register mro elements open input version_info with_traceback add_note format format_map attrgetter
    breakpoint builtins compile copyright credits delattr dir eval exec exit gc getattr globals hasattr help id
    importlib license locals methodcaller os quit setattr super type vars sys chr""".split()

WALKED = "zip enumerate reversed range items keys values".split()
WALKERS = "list tuple dict sorted sum any all enumerate zip min max".split()


def package_files():
    return sorted(name for name in os.listdir(PACKAGE) if name != "__pycache__")


def source_of(name):
    with open(os.path.join(PACKAGE, name), encoding="utf-8", newline="") as file:
        return file.read()


def nodes_of(kinds):
    """Each node of these kinds, with the file and the row that it stands in."""
    for name in package_files():
        for node in ast.walk(ast.parse(source_of(name))):
            if isinstance(node, kinds):
                yield node, f"{name}:{getattr(node, 'lineno', 0)}"


def called_name(call):
    return call.func.attr if isinstance(call.func, ast.Attribute) else getattr(call.func, "id", None)


def bound_names(tree):
    names = [node.name for node in ast.walk(tree) if isinstance(node, (ast.FunctionDef, ast.ClassDef))]
    names += [node.arg for node in ast.walk(tree) if isinstance(node, ast.arg)]
    names += [node.id for node in ast.walk(tree) if isinstance(node, ast.Name) and isinstance(node.ctx, ast.Store)]
    return names


class Files(unittest.TestCase):
    def test_names_of_files(self):
        self.assertIn("__init__.py", package_files())
        for name in package_files():
            self.assertRegex(name, r"\A(__init__|[a-z][a-z0-9_]*)\.py\Z")

    def test_signs_and_sizes(self):
        for name in package_files():
            source = source_of(name)
            self.assertRegex(source, r"\A[ -~\n]*\Z", name)
            rows = source.split("\n")
            self.assertLessEqual(len(rows), 401, name)
            self.assertLessEqual(max(len(row) for row in rows), 120, name)

    def test_sizes_of_functions(self):
        for node, where in nodes_of(ast.FunctionDef):
            self.assertLessEqual(node.end_lineno - node.lineno + 1, 40, where)

    def test_words_that_stand_nowhere(self):
        for name in package_files():
            source = source_of(name)
            self.assertEqual([word for word in re.findall(r"\w+", source) if word in WORDS], [], name)
            self.assertNotRegex(source, "dataclass|overload|contextmanager")


class Imports(unittest.TestCase):
    def test_only_the_package_itself(self):
        for node, where in nodes_of((ast.Import, ast.ImportFrom)):
            self.assertIsInstance(node, ast.ImportFrom, where)
            self.assertEqual(node.level, 0, where)
            self.assertRegex(node.module, r"\Aproofnetsdesk\.[a-z]+\Z", where)
            self.assertNotIn("*", [alias.name for alias in node.names], where)

    def test_from_the_file_that_defines_the_name(self):
        for node, where in nodes_of(ast.ImportFrom):
            defining = ast.parse(source_of(node.module.split(".")[1] + ".py"))
            names = [part.name for part in defining.body if isinstance(part, (ast.FunctionDef, ast.ClassDef))]
            names += [part.targets[0].id for part in defining.body if isinstance(part, ast.Assign)]
            for alias in node.names:
                self.assertIn(alias.name, names, where)

    def test_no_two_files_draw_from_one_another(self):
        draws = {name: set() for name in package_files()}
        for node, where in nodes_of(ast.ImportFrom):
            draws[where.split(":")[0]] |= {"__init__.py", node.module.split(".")[1] + ".py"}
        while draws:
            free = [name for name in draws if not draws[name] & set(draws)]
            self.assertTrue(free, draws)
            for name in free:
                draws.pop(name)

    def test_all_imports_are_used(self):
        for name in package_files():
            tree = ast.parse(source_of(name))
            used = {node.id for node in ast.walk(tree) if isinstance(node, ast.Name)}
            for node in ast.walk(tree):
                if isinstance(node, ast.ImportFrom):
                    self.assertEqual([alias.name for alias in node.names if alias.name not in used], [], name)


class Code(unittest.TestCase):
    def test_the_top_of_a_file(self):
        for name in package_files():
            body = ast.parse(source_of(name)).body
            self.assertIsInstance(body[0], ast.Expr, name)
            for node in body[1:]:
                self.assertIsInstance(node, (ast.ImportFrom, ast.FunctionDef, ast.ClassDef, ast.Assign), name)
                if isinstance(node, ast.Assign):
                    ast.literal_eval(node.value)
            names = [node.targets[0].id for node in body if isinstance(node, ast.Assign)]
            names += [node.name for node in body if isinstance(node, (ast.FunctionDef, ast.ClassDef))]
            self.assertEqual(len(names), len(set(names)), name)

    def test_statements_and_expressions(self):
        for node, where in nodes_of((ast.stmt, ast.expr)):
            self.assertIsInstance(node, STATEMENTS + EXPRESSIONS, where)

    def test_forms_that_are_left_out(self):
        for node, where in nodes_of((ast.FunctionDef, ast.ClassDef)):
            self.assertEqual(node.decorator_list, [], where)
        for node, where in nodes_of(ast.arguments):
            self.assertFalse(node.vararg or node.kwarg or node.kwonlyargs or node.posonlyargs, where)
        for node, where in nodes_of((ast.For, ast.While)):
            self.assertEqual(node.orelse, [], where)
        for node, where in nodes_of(ast.Assign):
            self.assertEqual(len(node.targets), 1, where)
            self.assertNotIsInstance(node.targets[0], (ast.Tuple, ast.List), where)
        for node, where in nodes_of((ast.Div, ast.MatMult, ast.Starred, ast.NamedExpr, ast.Pow)):
            self.fail(f"{where} {type(node)}")
        for node, where in nodes_of(ast.comprehension):
            self.assertLessEqual(len(node.ifs), 1, where)
        for node, where in nodes_of(ast.ListComp):
            self.assertEqual(len(node.generators), 1, where)

    def test_is_stands_beside_none(self):
        for node, where in nodes_of(ast.Compare):
            for operator, right in zip(node.ops, node.comparators):
                if isinstance(operator, (ast.Is, ast.IsNot)):
                    self.assertIsInstance(right, ast.Constant, where)
                    self.assertIsNone(right.value, where)

    def test_values(self):
        for node, where in nodes_of(ast.Constant):
            self.assertIsInstance(node.value, (int, str, type(None)), where)
            if isinstance(node.value, str):
                self.assertNotIn("%", node.value, where)

    def test_bound_names(self):
        for file_name in package_files():
            tree = ast.parse(source_of(file_name))
            imported = [alias.name for node in ast.walk(tree) if isinstance(node, ast.ImportFrom) for alias in node.names]
            for name in bound_names(tree):
                if name != "__init__":
                    self.assertRegex(name, r"\A[A-Za-z][A-Za-z0-9_]*\Z", file_name)
                self.assertNotIn(name, dir(builtins), file_name)
                self.assertNotIn(name, NOT_AS_NAMES, file_name)
                self.assertNotIn(name, imported, file_name)

    def test_names_that_are_read(self):
        for file_name in package_files():
            tree = ast.parse(source_of(file_name))
            for node in ast.walk(tree):
                if isinstance(node, ast.Name) and hasattr(builtins, node.id):
                    self.assertIn(node.id, OWN_NAMES, f"{file_name}:{node.lineno}")

    def test_methods(self):
        own = {node.name for node, where in nodes_of(ast.FunctionDef)}
        for node, where in nodes_of(ast.Call):
            if isinstance(node.func, ast.Attribute):
                self.assertIn(node.func.attr, own | set(METHODS), where)

    def test_what_is_walked_at_once(self):
        for name in package_files():
            tree = ast.parse(source_of(name))
            walked = [node.iter for node in ast.walk(tree) if isinstance(node, (ast.For, ast.comprehension))]
            for node in ast.walk(tree):
                if isinstance(node, ast.Call) and isinstance(node.func, ast.Name) and node.func.id in WALKERS:
                    walked += node.args if node.func.id == "zip" else node.args[:1]
            for node in ast.walk(tree):
                if isinstance(node, ast.Call) and called_name(node) in WALKED:
                    self.assertIn(node, walked, f"{name}:{node.lineno}")

    def test_values_of_objects(self):
        methods, values = set(), set()
        for node, where in nodes_of(ast.ClassDef):
            methods |= {part.name for part in node.body if isinstance(part, ast.FunctionDef)}
            for part in node.body:
                self.assertIsInstance(part, (ast.FunctionDef, ast.Pass), where)
        for node, where in nodes_of(ast.Attribute):
            if isinstance(node.ctx, ast.Store):
                values.add(node.attr)
        taken = set().union(*[dir(kind) for kind in (str, int, list, dict, set, bytes)]) | set(NOT_AS_NAMES)
        self.assertEqual(methods & values, set())
        self.assertEqual((methods - {"__init__"} | values) & taken, set())


if __name__ == "__main__":
    unittest.main()
