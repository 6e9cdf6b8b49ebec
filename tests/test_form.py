"""The form of the package's files, as far as it can be seen from outside: rules L1 to L28 of the language's part."""

import ast
import builtins
import os
import re
import unittest

TOP = os.path.dirname(os.path.dirname(os.path.abspath(__file__)))
PACKAGE = "markslide"

ERRORS = """Exception ValueError TypeError KeyError IndexError LookupError ZeroDivisionError ArithmeticError
    OverflowError RuntimeError NotImplementedError AttributeError StopIteration""".split()
OWN_NAMES = """len range enumerate zip min max sum abs sorted reversed int str bool list tuple dict set frozenset
    isinstance ord repr any all divmod""".split() + ERRORS
METHODS = """append clear copy count endswith extend find get index insert isalnum isalpha isdigit islower isspace
    isupper items join keys ljust lower lstrip partition pop remove replace reverse rfind rjust rpartition rsplit
    rstrip setdefault split splitlines startswith strip update upper values zfill bit_length""".split()
DUNDERS = "__init__ __eq__ __repr__ __str__ __len__".split()
WORDS = """type typing typing_extensions enum Enum IntEnum StrEnum Flag IntFlag Generic Protocol ABC ABCMeta namedtuple
    NamedTuple TypedDict TYPE_CHECKING abstractmethod""".split()
STATEMENTS = (
    ast.Module, ast.FunctionDef, ast.ClassDef, ast.ImportFrom, ast.alias, ast.Assign, ast.AugAssign, ast.If, ast.While,
    ast.For, ast.Return, ast.Break, ast.Continue, ast.Pass, ast.Raise, ast.Try, ast.ExceptHandler, ast.Expr,
    ast.arguments, ast.arg, ast.keyword,
)
EXPRESSIONS = (
    ast.Constant, ast.List, ast.Tuple, ast.Dict, ast.Name, ast.Attribute, ast.Subscript, ast.Slice, ast.BinOp,
    ast.UnaryOp, ast.BoolOp, ast.Compare, ast.IfExp, ast.Call, ast.ListComp, ast.comprehension, ast.Lambda,
    ast.JoinedStr, ast.FormattedValue, ast.Set, ast.expr_context, ast.operator, ast.unaryop, ast.boolop, ast.cmpop,
)
NOT_USED = (ast.Div, ast.MatMult)
# What Python's own values have, and which of these names an object's value may bear all the same.
TAKEN = [name for kind in (str, int, list, tuple, dict, set, bytes, Exception) for name in dir(kind)]
FREE_VALUES = "count index title find get join lower upper split strip copy add".split()
WALKED_AT_ONCE = "zip enumerate reversed range".split()
WALKERS = "list tuple dict sorted sum any all enumerate zip min max".split()


def sources():
    folder = os.path.join(TOP, PACKAGE)
    for name in sorted(os.listdir(folder)):
        if name != "__pycache__":
            with open(os.path.join(folder, name), encoding="utf-8", newline="") as file:
                yield name, file.read()


def docstring_of(tree):
    first = tree.body[0] if tree.body else None
    if isinstance(first, ast.Expr) and isinstance(first.value, ast.Constant) and isinstance(first.value.value, str):
        return first
    return None


def imports_of(tree):
    return [node for node in ast.walk(tree) if isinstance(node, (ast.Import, ast.ImportFrom))]


def defined_by(tree):
    found = [node.name for node in tree.body if isinstance(node, (ast.FunctionDef, ast.ClassDef))]
    return found + [node.targets[0].id for node in tree.body if isinstance(node, ast.Assign)]


def bound_in(tree):
    """Every parameter and every local."""
    found = [node.arg for node in ast.walk(tree) if isinstance(node, ast.arg)]
    for part in tree.body:
        if not isinstance(part, ast.Assign):
            found += [n.id for n in ast.walk(part) if isinstance(n, ast.Name) and isinstance(n.ctx, ast.Store)]
    return found


class Form(unittest.TestCase):
    def setUp(self):
        self.texts = dict(sources())
        self.trees = {name: ast.parse(text) for name, text in self.texts.items()}

    def each(self, *kinds):
        for name, tree in self.trees.items():
            for node in ast.walk(tree):
                if isinstance(node, kinds):
                    yield f"{name}:{getattr(node, 'lineno', 0)}", node

    def test_files(self):
        self.assertIn("__init__.py", self.texts)
        for name in self.texts:
            self.assertTrue(name == "__init__.py" or re.fullmatch(r"[a-z][a-z0-9_]*\.py", name), name)
            self.assertNotIn(name[:-3], dir(builtins) + WORDS)
            self.assertFalse(re.match(r"test|site|conftest|sitecustomize|usercustomize", name), name)

    def test_signs_and_sizes(self):
        for name, text in self.texts.items():
            self.assertIsNone(re.search(r"[^ -~\n]", text), name)
            self.assertLessEqual(text.count("\n"), 400, name)
            for number, row in enumerate(text.split("\n"), start=1):
                self.assertLessEqual(len(row), 120, f"{name}:{number}")
        for place, node in self.each(ast.FunctionDef):
            self.assertLessEqual(node.end_lineno - node.lineno + 1, 40, place)

    def test_words(self):
        for name, text in self.texts.items():
            for word in re.findall(r"\w+", text):
                self.assertNotIn(word, WORDS, name)
                self.assertIsNone(re.search("dataclass|overload|contextmanager", word), name)

    def test_imports(self):
        for name, tree in self.trees.items():
            for node in imports_of(tree):
                self.assertIsInstance(node, ast.ImportFrom, name)
                self.assertIn(node, tree.body, name)
                self.assertEqual(node.level, 0, name)
                package, dot, file = node.module.partition(".")
                self.assertEqual(package, PACKAGE, name)
                for part in node.names:
                    self.assertIsNone(part.asname, name)
                    self.assertIn(part.name, defined_by(self.trees[file + ".py"]), name)

    def test_no_two_files_draw_from_one_another(self):
        draws = {name: [n.module.partition(".")[2] + ".py" for n in imports_of(t)] for name, t in self.trees.items()}
        self.assertEqual(draws["__init__.py"], [])
        while draws:
            free = [name for name, drawn in draws.items() if not any(other in draws for other in drawn)]
            self.assertTrue(free, draws)
            draws = {name: drawn for name, drawn in draws.items() if name not in free}

    def test_the_top_of_a_file(self):
        plain = (ast.FunctionDef, ast.ClassDef, ast.ImportFrom, ast.Assign)
        for name, tree in self.trees.items():
            for node in tree.body:
                self.assertTrue(isinstance(node, plain) or node == docstring_of(tree), f"{name}:{node.lineno}")
            names = defined_by(tree)
            self.assertEqual(len(names), len(set(names)), name)

    def test_statements_and_expressions(self):
        for name, tree in self.trees.items():
            for node in ast.walk(tree):
                place = f"{name}:{getattr(node, 'lineno', 0)}"
                self.assertIsInstance(node, STATEMENTS + EXPRESSIONS, place)
                self.assertNotIsInstance(node, NOT_USED, place)
                if isinstance(node, ast.Expr) and node != docstring_of(tree):
                    self.assertIsInstance(node.value, ast.Call, place)
                if isinstance(node, ast.Assign):
                    self.assertEqual(len(node.targets), 1, place)
                    self.assertNotIsInstance(node.targets[0], (ast.Tuple, ast.List), place)
                if isinstance(node, (ast.For, ast.While)):
                    self.assertEqual(node.orelse, [], place)
                if isinstance(node, ast.Try):
                    self.assertEqual(node.finalbody, [], place)
                if isinstance(node, ast.ListComp):
                    self.assertEqual(len(node.generators), 1, place)
                    self.assertLessEqual(len(node.generators[0].ifs), 1, place)

    def test_functions_and_classes(self):
        for place, node in self.each(ast.FunctionDef, ast.ClassDef):
            self.assertEqual(node.decorator_list, [], place)
        for place, node in self.each(ast.FunctionDef):
            given = node.args
            self.assertFalse(given.vararg or given.kwarg or given.kwonlyargs or given.posonlyargs, place)
        for place, node in self.each(ast.ClassDef):
            self.assertLessEqual(len(node.bases), 1, place)
            self.assertEqual(node.keywords, [], place)
            for part in node.body:
                self.assertIsInstance(part, (ast.FunctionDef, ast.Pass), place)

    def test_methods_and_values_of_objects(self):
        methods = {}
        values = {}
        for place, node in self.each(ast.ClassDef):
            names = [part.name for part in node.body if isinstance(part, ast.FunctionDef)]
            self.assertEqual(len(names), len(set(names)), place)
            for name in names:
                methods[name] = place
                self.assertTrue(name in DUNDERS + METHODS + ["add", "discard"] or name not in TAKEN, place)
        for place, node in self.each(ast.Attribute):
            if isinstance(node.ctx, ast.Store):
                values[node.attr] = place
                self.assertIsInstance(node.value, ast.Name, place)
                self.assertTrue(node.attr in FREE_VALUES or node.attr not in TAKEN, place)
                self.assertRegex(node.attr, r"^[A-Za-z][A-Za-z0-9_]*$")
        self.assertEqual(set(methods) & set(values), set())

    def test_making_an_object_gives_back_nothing(self):
        for place, node in self.each(ast.FunctionDef):
            if node.name == "__init__":
                self.assertFalse(any(isinstance(part, ast.Return) for part in ast.walk(node)), place)

    def test_braces_hold_plain_names(self):
        for place, node in self.each(ast.FormattedValue):
            self.assertIsInstance(node.value, ast.Name, place)
            self.assertIsNone(node.format_spec, place)
            self.assertIn(node.conversion, (-1, ord("r")), place)

    def test_escapes(self):
        for name, text in self.texts.items():
            self.assertIsNone(re.search(r"\\[^nt\\'\"]", text), name)

    def test_walked_at_once(self):
        walked = []
        for place, node in self.each(ast.For, ast.comprehension):
            walked.append(node.iter)
        for place, node in self.each(ast.Call):
            if isinstance(node.func, ast.Name) and node.func.id in WALKERS and node.args:
                walked.append(node.args[0])
        for place, node in self.each(ast.Call):
            if isinstance(node.func, ast.Name) and node.func.id in WALKED_AT_ONCE:
                self.assertIn(node, walked, place)
            if isinstance(node.func, ast.Attribute) and node.func.attr in ("items", "keys", "values"):
                self.assertIn(node, walked, place)

    def test_names(self):
        for name, tree in self.trees.items():
            drawn = [part.name for node in imports_of(tree) for part in node.names]
            classes = [node.name for node in tree.body if isinstance(node, ast.ClassDef)]
            for bound in bound_in(tree):
                self.assertNotIn(bound, drawn + classes + dir(builtins), name)
            known = drawn + defined_by(tree) + bound_in(tree) + OWN_NAMES
            for node in ast.walk(tree):
                if isinstance(node, ast.Name):
                    self.assertIn(node.id, known, f"{name}:{node.lineno}")
                    self.assertRegex(node.id, r"^[A-Za-z][A-Za-z0-9_]*$")
        for place, node in self.each(ast.FunctionDef, ast.ClassDef):
            self.assertTrue(node.name in DUNDERS or re.fullmatch(r"[A-Za-z]\w*", node.name), place)

    def test_methods(self):
        own = [node.name for place, node in self.each(ast.FunctionDef)]
        for place, node in self.each(ast.Call):
            if isinstance(node.func, ast.Attribute):
                self.assertIn(node.func.attr, METHODS + own, place)

    def test_is_stands_beside_none_true_and_false_alone(self):
        for place, node in self.each(ast.Compare):
            if any(isinstance(sign, (ast.Is, ast.IsNot)) for sign in node.ops):
                self.assertTrue(all(isinstance(side, ast.Constant) for side in node.comparators), place)
                self.assertTrue(all(side.value in (None, True, False) for side in node.comparators), place)

    def test_values(self):
        for place, node in self.each(ast.Constant):
            self.assertTrue(node.value is None or isinstance(node.value, (bool, int, str)), place)
            if isinstance(node.value, str):
                self.assertNotIn("%", node.value, place)

    def test_sets_are_not_kept_or_walked(self):
        for place, node in self.each(ast.Assign, ast.AugAssign, ast.For, ast.comprehension):
            value = node.value if isinstance(node, (ast.Assign, ast.AugAssign)) else node.iter
            self.assertNotIsInstance(value, ast.Set, place)
            if isinstance(value, ast.Call) and isinstance(value.func, ast.Name):
                self.assertNotIn(value.func.id, ("set", "frozenset"), place)

    def test_errors_are_taken_by_name(self):
        for place, node in self.each(ast.ExceptHandler):
            self.assertIsNotNone(node.type, place)
            self.assertNotIn(ast.unparse(node.type), ("Exception", "TypeError"), place)
        for place, node in self.each(ast.Raise):
            self.assertIsInstance(node.exc, ast.Call, place)


if __name__ == "__main__":
    unittest.main()
