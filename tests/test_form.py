"""The form of the package's files, as far as a short test can see it. The numbers L1, L2 .. are those of the rules."""

import ast
import builtins
import pathlib
import unittest

PACKAGE = pathlib.Path(__file__).resolve().parent.parent / "windowada"
FILES = sorted(PACKAGE.glob("*.py"))

BUILTINS = """len range enumerate zip min max sum abs sorted reversed int str bool list tuple dict set isinstance ord repr any
all divmod ValueError KeyError ZeroDivisionError super property""".split()
METHODS = """append clear copy count endswith extend find get index insert isalnum isalpha isdigit islower isspace isupper
items join keys ljust lower lstrip partition pop remove replace reverse rfind rjust rpartition rsplit rstrip setdefault split
splitlines startswith strip update upper values zfill bit_length istitle""".split()
ATTRIBUTES = "count index title find get join lower upper split strip copy add".split()
SPECIAL = ("__init__", "__contains__")
NEVER = ("register", "mro", "elements", "open", "input", "law", "version_info", "with_traceback", "add_note")
NOT_AS_NAMES = """breakpoint compile copyright credits delattr dir eval exec exit gc globals help id importlib license locals
methodcaller os quit setattr type vars sys""".split()
STATEMENTS = (
    ast.Assign, ast.AugAssign, ast.If, ast.While, ast.For, ast.Return, ast.Break, ast.Continue, ast.Pass, ast.Raise, ast.Try,
    ast.Expr, ast.Match, ast.FunctionDef, ast.ClassDef, ast.ImportFrom,
)
EXPRESSIONS = (
    ast.Constant, ast.Name, ast.Attribute, ast.Call, ast.BinOp, ast.UnaryOp, ast.BoolOp, ast.Compare, ast.IfExp, ast.Tuple,
    ast.List, ast.Dict, ast.Subscript, ast.Slice, ast.ListComp, ast.DictComp, ast.JoinedStr, ast.FormattedValue, ast.Starred,
)


TREES = [(path, ast.parse(path.read_text(encoding="utf-8"))) for path in FILES]


def trees():
    return TREES


def own_names(kind):
    return {node.name for _, tree in trees() for node in ast.walk(tree) if isinstance(node, kind)}


class FormTest(unittest.TestCase):

    def each_node(self, kind):
        for path, tree in trees():
            for node in ast.walk(tree):
                if isinstance(node, kind):
                    yield f"{path.name}:{getattr(node, 'lineno', 0)}", node

    def test_files(self):
        """L1, L10, L12, L14."""
        allowed = {*[path.name for path in FILES], "__pycache__"}
        self.assertEqual({path.name for path in PACKAGE.iterdir()} | allowed, allowed)
        for path in FILES:
            text = path.read_bytes().decode("ascii")
            self.assertTrue(all(character == "\n" or " " <= character <= "~" for character in text), path)
            lines = text.split("\n")
            self.assertLessEqual(len(lines) - 1, 399, path)
            self.assertLessEqual(max(map(len, lines)), 120, path)
            self.assertNotIn("_wall", text.lower())

    def test_size_of_functions(self):
        """L10."""
        for where, node in self.each_node(ast.FunctionDef):
            self.assertLessEqual(node.end_lineno - node.lineno + 1, 40, where)

    def test_module_level(self):
        """L3, L15, L16: what stands there, each name once, and imports from the very file that defines a name."""
        defined = {}
        for path, tree in trees():
            names = []
            for at, node in enumerate(tree.body):
                if isinstance(node, ast.Expr):
                    self.assertTrue(at == 0 and isinstance(node.value, ast.Constant), path)
                elif isinstance(node, (ast.FunctionDef, ast.ClassDef)):
                    names.append(node.name)
                elif isinstance(node, ast.Assign):
                    self.assertEqual(len(node.targets), 1)
                    self.assertIsInstance(node.targets[0], ast.Name)
                    names.append(node.targets[0].id)
                else:
                    self.assertIsInstance(node, ast.ImportFrom, path)
            defined[path.stem] = list(names)
            names += [alias.name for node in tree.body if isinstance(node, ast.ImportFrom) for alias in node.names]
            self.assertEqual(len(names), len(set(names)), path)
        for where, node in self.each_node(ast.ImportFrom):
            package, module = node.module.split(".")
            self.assertEqual((package, node.level), ("windowada", 0), where)
            for alias in node.names:
                self.assertIsNone(alias.asname, where)
                self.assertIn(alias.name, defined[module], where)

    def test_no_circles_of_imports(self):
        """L16."""
        needs = {path.stem: {node.module.split(".")[1] for node in tree.body if isinstance(node, ast.ImportFrom)}
                 for path, tree in trees()}
        while needs:
            free = [name for name in needs if not needs[name] & set(needs)]
            self.assertTrue(free, needs)
            for name in free:
                del needs[name]

    def test_imports_are_used(self):
        for path, tree in trees():
            used = {node.id for node in ast.walk(tree) if isinstance(node, ast.Name)}
            for node in tree.body:
                if isinstance(node, ast.ImportFrom):
                    for alias in node.names:
                        self.assertIn(alias.name, used, path)

    def test_statements_and_expressions(self):
        """L4 to L7."""
        for where, node in self.each_node((ast.stmt, ast.expr)):
            self.assertIsInstance(node, STATEMENTS if isinstance(node, ast.stmt) else EXPRESSIONS, where)
        for where, node in self.each_node(ast.FunctionDef):
            for decorator in node.decorator_list:
                self.assertEqual(decorator.id, "property", where)
            self.assertFalse(node.args.vararg or node.args.kwarg or node.returns, where)
            if node.name.startswith("__"):
                self.assertIn(node.name, SPECIAL, where)
        for where, node in self.each_node(ast.BinOp):
            self.assertNotIsInstance(node.op, ast.Div, where)

    def test_names(self):
        """L8, L12, L15, L17."""
        barred = {name for name in dir(builtins) if not name.startswith("_")} | set(NOT_AS_NAMES)
        for path, tree in trees():
            outer = {node.name for node in tree.body if isinstance(node, ast.ClassDef)}
            outer |= {alias.name for node in tree.body if isinstance(node, ast.ImportFrom) for alias in node.names}
            for node in ast.walk(tree):
                if isinstance(node, ast.Name) and isinstance(node.ctx, ast.Load) and node.id in barred:
                    self.assertIn(node.id, BUILTINS, path)
                bound = []
                if isinstance(node, ast.Name) and isinstance(node.ctx, ast.Store):
                    bound = [node.id]
                elif isinstance(node, ast.arg):
                    bound = [node.arg]
                elif isinstance(node, (ast.MatchAs, ast.ExceptHandler)) and node.name:
                    bound = [node.name]
                for name in bound:
                    self.assertNotIn(name, barred | outer | set(NEVER), path)
                    self.assertFalse(name.startswith("__"), path)
                if isinstance(node, (ast.FunctionDef, ast.ClassDef)):
                    self.assertNotIn(node.name, barred | set(NEVER), path)
                if isinstance(node, ast.Attribute):
                    self.assertNotIn(node.attr, NEVER, path)

    def test_captured_names_are_not_assigned(self):
        """L6."""
        for where, function in self.each_node(ast.FunctionDef):
            captured = {node.name for node in ast.walk(function) if isinstance(node, ast.MatchAs) and node.name}
            stored = {node.id for node in ast.walk(function) if isinstance(node, ast.Name) and isinstance(node.ctx, ast.Store)}
            stored |= {node.arg for node in ast.walk(function) if isinstance(node, ast.arg)}
            self.assertEqual(captured & stored, set(), where)

    def test_captured_names_are_read_in_their_case(self):
        """L6."""
        for where, function in self.each_node(ast.FunctionDef):
            cases = [node for node in ast.walk(function) if isinstance(node, ast.match_case)]
            inside = {}
            for case in cases:
                names = {node.name for node in ast.walk(case.pattern) if isinstance(node, ast.MatchAs)}
                for node in ast.walk(case):
                    if isinstance(node, ast.Name) and node.id in names:
                        inside[id(node)] = True
            captured = {node.name for node in ast.walk(function) if isinstance(node, ast.MatchAs) and node.name}
            for node in ast.walk(function):
                if isinstance(node, ast.Name) and node.id in captured:
                    self.assertIn(id(node), inside, where)

    def test_methods(self):
        """L18, L25."""
        own = own_names(ast.FunctionDef)
        for where, node in self.each_node(ast.Call):
            if isinstance(node.func, ast.Attribute):
                self.assertIn(node.func.attr, own | set(METHODS) | {"__init__"}, where)
        assigned = {
            node.attr for _, node in self.each_node(ast.Attribute) if isinstance(node.ctx, ast.Store)
        }
        own_to_values = {name for kind in (str, int, list, dict, set, tuple, bytes) for name in dir(kind)}
        self.assertEqual(assigned & own_to_values - set(ATTRIBUTES), set())
        called = {id(node.func) for _, node in self.each_node(ast.Call)}
        properties = {node.name for _, node in self.each_node(ast.FunctionDef) if node.decorator_list}
        for where, node in self.each_node(ast.Attribute):
            if isinstance(node.ctx, ast.Load) and id(node) not in called:
                self.assertIn(node.attr, assigned | properties | own, where)

    def test_is(self):
        """L20."""
        for where, node in self.each_node(ast.Compare):
            for operator, right in zip(node.ops, node.comparators):
                if isinstance(operator, (ast.Is, ast.IsNot)):
                    self.assertIsInstance(right, ast.Constant, where)

    def test_strings(self):
        """L17, L27."""
        for where, node in self.each_node(ast.Constant):
            if isinstance(node.value, str):
                self.assertNotIn("%", node.value, where)
                self.assertFalse(node.value.startswith("__") and node.value.endswith("__"), where)
        for where, node in self.each_node(ast.Raise):
            if node.exc is not None:
                self.assertIsInstance(node.exc, ast.Call, where)

    def test_docstrings(self):
        for path, tree in trees():
            self.assertIsNotNone(ast.get_docstring(tree), path)
        for where, node in self.each_node((ast.FunctionDef, ast.ClassDef)):
            if not node.name.startswith("__"):
                self.assertIsNotNone(ast.get_docstring(node), f"{where} {node.name}")


if __name__ == "__main__":
    unittest.main()
