"""The package keeps to the small part of Python that it is written in."""

import ast
import builtins
import os
import re
import unittest

TOP = os.path.dirname(os.path.dirname(os.path.abspath(__file__)))
PACKAGE = os.path.join(TOP, "speakcode")

OWN_NAMES = (
    "len range enumerate zip min max sum abs sorted reversed int str bool list tuple dict set frozenset isinstance ord"
    " repr any all divmod Exception ValueError TypeError KeyError IndexError LookupError ZeroDivisionError"
    " ArithmeticError OverflowError RuntimeError NotImplementedError AttributeError StopIteration").split()
METHODS = (
    "append clear copy count endswith extend find get index insert isalnum isalpha isdigit islower isspace isupper items"
    " join keys ljust lower lstrip partition pop remove replace reverse rfind rjust rpartition rsplit rstrip setdefault"
    " split splitlines startswith strip update upper values zfill bit_length").split()
NOT_A_WORD = (
    "type typing typing_extensions enum Enum IntEnum StrEnum Flag IntFlag Generic Protocol ABC ABCMeta namedtuple"
    " NamedTuple TypedDict TYPE_CHECKING abstractmethod").split()
STATEMENTS = (
    ast.Assign, ast.AugAssign, ast.If, ast.While, ast.For, ast.Return, ast.Break, ast.Continue, ast.Pass, ast.Raise,
    ast.Try, ast.Expr, ast.FunctionDef, ast.ClassDef, ast.ImportFrom)
NOT_USED = (
    ast.Set, ast.SetComp, ast.DictComp, ast.GeneratorExp, ast.NamedExpr, ast.Starred, ast.Yield, ast.YieldFrom, ast.Await,
    ast.Div, ast.MatMult, ast.AnnAssign)


def sources():
    found = {}
    for name in sorted(os.listdir(PACKAGE)):
        if name != "__pycache__":
            with open(os.path.join(PACKAGE, name), encoding="utf-8") as file:
                found[name] = file.read()
    return found


def trees():
    return {name: ast.parse(source) for name, source in sources().items()}


def nodes(kind):
    for name, tree in trees().items():
        for node in ast.walk(tree):
            if isinstance(node, kind):
                yield name, node


def bound_names(tree):
    """Every name that a file gives a meaning to, with its line."""
    for node in ast.walk(tree):
        if isinstance(node, ast.Name) and isinstance(node.ctx, ast.Store):
            yield node.id, node.lineno
        elif isinstance(node, ast.arg):
            yield node.arg, node.lineno
        elif isinstance(node, (ast.FunctionDef, ast.ClassDef)):
            yield node.name, node.lineno
        elif isinstance(node, ast.ExceptHandler) and node.name:
            yield node.name, node.lineno


def functions_and_methods(tree):
    for node in ast.walk(tree):
        if isinstance(node, ast.FunctionDef):
            yield node


class Language(unittest.TestCase):
    def test_files(self):
        for name, source in sources().items():
            self.assertRegex(name, r"^(__init__|[a-z][a-z0-9_]*)\.py$")
            self.assertLessEqual(source.count("\n"), 400, name)
            self.assertRegex(source, r"\A[\n -~]*\Z", name)
            for line in source.split("\n"):
                self.assertLessEqual(len(line), 120, name)
            for word in NOT_A_WORD:
                self.assertIsNone(re.search(rf"\b{word}\b", source), (name, word))
            self.assertIsNone(re.search("dataclass|overload|contextmanager", source), name)
            self.assertNotIn(name[:-3], dir(builtins))

    def test_imports(self):
        drawn = {}
        for name, tree in trees().items():
            drawn[name[:-3]] = []
            for node in ast.walk(tree):
                self.assertNotIsInstance(node, ast.Import)
                if isinstance(node, ast.ImportFrom):
                    self.assertTrue(node.module.startswith("speakcode."), node.module)
                    self.assertTrue(all(alias.name != "*" and alias.asname is None for alias in node.names))
                    drawn[name[:-3]].append(node.module[len("speakcode."):])
        done = []
        while len(done) < len(drawn):
            free = [name for name in drawn if name not in done and all(other in done for other in drawn[name])]
            self.assertTrue(free, "files draw from one another")
            done.extend(free)

    def test_names_come_from_where_they_are_defined_and_are_used(self):
        all_trees = trees()
        for name, tree in all_trees.items():
            used = {node.id for node in ast.walk(tree) if isinstance(node, ast.Name)}
            for node in ast.walk(tree):
                if isinstance(node, ast.ImportFrom):
                    defined = [bound for bound, line in bound_names(all_trees[node.module.split(".")[1] + ".py"])]
                    for alias in node.names:
                        self.assertIn(alias.name, defined)
                        self.assertIn(alias.name, used, name)

    def test_statements(self):
        for name, node in nodes(ast.stmt):
            self.assertIsInstance(node, STATEMENTS, (name, node.lineno))
        for name, node in nodes(ast.Assign):
            self.assertEqual(len(node.targets), 1, (name, node.lineno))
        for name, node in nodes((ast.For, ast.While)):
            self.assertEqual(node.orelse, [], (name, node.lineno))
        for name, node in nodes(ast.Try):
            self.assertEqual(node.finalbody, [], (name, node.lineno))

    def test_no_text_stands_by_itself_but_at_a_file_s_top(self):
        for name, tree in trees().items():
            self.assertIsNotNone(ast.get_docstring(tree), name)
            for node in ast.walk(tree):
                if isinstance(node, ast.Expr) and node is not tree.body[0]:
                    self.assertIsInstance(node.value, ast.Call, (name, node.lineno))

    def test_expressions(self):
        for name, tree in trees().items():
            for node in ast.walk(tree):
                self.assertNotIsInstance(node, NOT_USED, name)
                if isinstance(node, ast.Constant):
                    self.assertNotIsInstance(node.value, (float, bytes, complex), (name, node.lineno))
                    if isinstance(node.value, str):
                        self.assertNotIn("%", node.value, (name, node.lineno))
                if isinstance(node, ast.ListComp):
                    self.assertEqual(len(node.generators), 1)
                    self.assertLessEqual(len(node.generators[0].ifs), 1)
                if isinstance(node, ast.Compare) and any(isinstance(op, (ast.Is, ast.IsNot)) for op in node.ops):
                    self.assertIsInstance(node.comparators[0], ast.Constant, (name, node.lineno))

    def test_functions(self):
        for name, tree in trees().items():
            for node in functions_and_methods(tree):
                self.assertLessEqual(node.end_lineno - node.lineno + 1, 40, (name, node.name))
                self.assertEqual(node.decorator_list, [])
                self.assertIsNone(node.args.vararg or node.args.kwarg or node.returns)
                self.assertEqual(node.args.kwonlyargs + node.args.posonlyargs, [])
                for parameter in node.args.args:
                    self.assertIsNone(parameter.annotation)

    def test_names(self):
        for name, tree in trees().items():
            classes = [node.name for node in ast.walk(tree) if isinstance(node, ast.ClassDef)]
            imports = [alias.name for node in ast.walk(tree) if isinstance(node, ast.ImportFrom) for alias in node.names]
            for bound, line in bound_names(tree):
                if bound != "__init__":
                    self.assertRegex(bound, r"^[A-Za-z][A-Za-z0-9_]*$", (name, line))
                self.assertNotIn(bound, dir(builtins), (name, line))
                self.assertNotIn(bound, imports, (name, line))
            for node in functions_and_methods(tree):
                local = [bound for bound, line in bound_names(node)]
                self.assertFalse(set(local) & set(classes), (name, node.name))

    def test_each_name_once_at_the_top(self):
        for name, tree in trees().items():
            found = []
            for node in tree.body:
                if isinstance(node, (ast.FunctionDef, ast.ClassDef)):
                    found.append(node.name)
                elif isinstance(node, ast.Assign):
                    found.append(node.targets[0].id)
                elif isinstance(node, ast.ImportFrom):
                    found.extend(alias.name for alias in node.names)
                else:
                    self.assertIs(node, tree.body[0], name)
            self.assertEqual(len(found), len(set(found)), name)

    def test_values_at_the_top_are_plain(self):
        for name, tree in trees().items():
            functions = [node.name for node in tree.body if isinstance(node, ast.FunctionDef)]
            for node in tree.body:
                if isinstance(node, ast.Assign):
                    for part in ast.walk(node.value):
                        self.assertIsInstance(part, (ast.Constant, ast.Tuple, ast.Dict, ast.Name, ast.Load, ast.UnaryOp,
                                                     ast.USub), (name, node.lineno))
                        if isinstance(part, ast.Name):
                            self.assertIn(part.id, functions, (name, node.lineno))
                        if isinstance(part, ast.Dict):
                            self.assertIs(part, node.value, (name, node.lineno))

    def test_python_s_own_names(self):
        for name, tree in trees().items():
            for node in ast.walk(tree):
                if isinstance(node, ast.Name) and node.id in dir(builtins):
                    self.assertIn(node.id, OWN_NAMES, (name, node.lineno))

    def test_methods(self):
        own = []
        for name, node in nodes(ast.ClassDef):
            own.extend(part.name for part in node.body if isinstance(part, ast.FunctionDef))
        values = [node.attr for name, node in nodes(ast.Attribute) if isinstance(node.ctx, ast.Store)]
        self.assertFalse(set(own) & set(values))
        for name, node in nodes(ast.Call):
            if isinstance(node.func, ast.Attribute):
                self.assertIn(node.func.attr, METHODS + own, (name, node.lineno))
        python_s = set(dir(str) + dir(int) + dir(list) + dir(dict) + dir(set) + dir(bytes) + dir(Exception))
        allowed = set("count index title find get join lower upper split strip copy add".split())
        self.assertFalse((set(values) & python_s) - allowed)
        self.assertFalse(set(own) & (python_s - {"__init__"}))

    def test_errors(self):
        for name, node in nodes(ast.Raise):
            self.assertIsInstance(node.exc, ast.Call, (name, node.lineno))
        for name, node in nodes(ast.ExceptHandler):
            self.assertIsInstance(node.type, ast.Name, (name, node.lineno))
            self.assertNotIn(node.type.id, dir(builtins), (name, node.lineno))


if __name__ == "__main__":
    unittest.main()
