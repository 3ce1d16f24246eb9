"""The package keeps to the small part of Python that it is written in, as far as a walk over its files can see."""

import ast
import re
import unittest
from pathlib import Path

PACKAGE = Path(__file__).resolve().parent.parent / "linerooms"

STATEMENTS = (
    ast.Assign, ast.AugAssign, ast.If, ast.While, ast.For, ast.Return, ast.Break, ast.Continue, ast.Pass, ast.Raise,
    ast.Try, ast.Expr, ast.FunctionDef, ast.ClassDef, ast.ImportFrom,
)
EXPRESSIONS = (
    ast.BoolOp, ast.BinOp, ast.UnaryOp, ast.Lambda, ast.IfExp, ast.Dict, ast.Set, ast.ListComp, ast.Compare, ast.Call,
    ast.JoinedStr, ast.FormattedValue, ast.Constant, ast.Attribute, ast.Subscript, ast.Name, ast.List, ast.Tuple,
    ast.Slice,
)
OWN_FUNCTIONS = (
    "len range enumerate zip min max sum abs sorted reversed int str bool list tuple dict set frozenset isinstance "
    "ord repr any all divmod"
).split()
OWN_ERRORS = (
    "Exception ValueError TypeError KeyError IndexError LookupError ZeroDivisionError ArithmeticError OverflowError "
    "RuntimeError NotImplementedError AttributeError StopIteration"
).split()
OWN_METHODS = (
    "append clear copy count endswith extend find get index insert isalnum isalpha isdigit islower isspace isupper "
    "items join keys ljust lower lstrip partition pop remove replace reverse rfind rjust rpartition rsplit rstrip "
    "setdefault split splitlines startswith strip update upper values zfill bit_length"
).split()
NOT_NAMES = (
    "register mro elements open input version_info with_traceback add_note attrgetter breakpoint builtins compile "
    "copyright credits delattr dir eval exec exit gc getattr globals hasattr help id importlib license locals "
    "methodcaller os quit setattr super type vars sys format format_map"
).split()
NOT_WORDS = (
    "type typing typing_extensions enum Enum IntEnum StrEnum Flag IntFlag Generic Protocol ABC ABCMeta namedtuple "
    "NamedTuple TypedDict TYPE_CHECKING abstractmethod"
).split()
PYTHONS_OWN = set(dir(__builtins__) if not isinstance(__builtins__, dict) else __builtins__)
MEMBERS = set()
for own in (str, int, list, dict, set, bytes, tuple, bool):
    MEMBERS |= set(dir(own))


def bound_names(tree):
    """All names that a file's functions, classes, parameters and assignments bind."""
    found = []
    for node in ast.walk(tree):
        if isinstance(node, (ast.FunctionDef, ast.ClassDef)):
            found.append(node.name)
        elif isinstance(node, ast.arg):
            found.append(node.arg)
        elif isinstance(node, ast.Name) and isinstance(node.ctx, ast.Store):
            found.append(node.id)
    return found


def is_plain(node, functions):
    """Whether the value is one that the top of a file may have."""
    if isinstance(node, ast.Constant):
        return node.value is None or isinstance(node.value, (int, str))
    if isinstance(node, ast.UnaryOp):
        return isinstance(node.op, ast.USub) and is_plain(node.operand, functions)
    if isinstance(node, (ast.List, ast.Tuple)):
        return all(is_plain(one, functions) for one in node.elts)
    if isinstance(node, ast.Dict):
        return all(is_plain(one, functions) for one in node.keys + node.values)
    return isinstance(node, ast.Name) and node.id in functions


class Language(unittest.TestCase):
    def setUp(self):
        self.texts = {path.name: path.read_text("utf-8") for path in sorted(PACKAGE.glob("*.py"))}
        self.trees = {name: ast.parse(text) for name, text in self.texts.items()}

    def nodes(self, *kinds):
        """All nodes of these kinds, each with where it stands."""
        for name, tree in self.trees.items():
            for node in ast.walk(tree):
                if isinstance(node, kinds):
                    yield f"{name}:{getattr(node, 'lineno', 0)}", node

    def test_files(self):
        self.assertIn("__init__.py", self.texts)
        for path in PACKAGE.iterdir():
            if path.name != "__pycache__":
                self.assertRegex(path.name, r"^(__init__|[a-z][a-z0-9_]*)\.py$")
                self.assertNotIn(path.stem, PYTHONS_OWN | set(NOT_WORDS))
                self.assertFalse(path.stem.startswith("test") or path.stem in ("site", "conftest"))

    def test_signs_and_sizes(self):
        for name, text in self.texts.items():
            self.assertRegex(text, r"\A[ -~\n]*\Z", name)
            rows = text.split("\n")
            self.assertLessEqual(len(rows), 400, name)
            self.assertLessEqual(max(len(row) for row in rows), 120, name)
        for where, node in self.nodes(ast.FunctionDef):
            self.assertLessEqual(node.end_lineno - node.lineno + 1, 40, where)

    def test_words(self):
        for name, text in self.texts.items():
            for word in NOT_WORDS:
                self.assertIsNone(re.search(rf"\b{word}\b", text), (name, word))
            self.assertIsNone(re.search("dataclass|overload|contextmanager", text), name)

    def test_statements_and_expressions(self):
        for where, node in self.nodes(ast.stmt):
            self.assertIsInstance(node, STATEMENTS, where)
            self.assertFalse(isinstance(node, (ast.For, ast.While)) and node.orelse, where)
            if isinstance(node, ast.Assign):
                self.assertEqual(len(node.targets), 1, where)
                self.assertNotIsInstance(node.targets[0], (ast.Tuple, ast.List), where)
            if isinstance(node, ast.Expr):
                is_docstring = isinstance(node.value, ast.Constant) and isinstance(node.value.value, str)
                self.assertTrue(is_docstring or isinstance(node.value, ast.Call), where)
        for where, node in self.nodes(ast.expr):
            self.assertIsInstance(node, EXPRESSIONS, where)
            if isinstance(node, ast.Constant):
                self.assertTrue(node.value is None or isinstance(node.value, (int, str)), where)
                self.assertFalse(isinstance(node.value, str) and "%" in node.value, where)
            if isinstance(node, ast.BinOp):
                self.assertNotIsInstance(node.op, (ast.Div, ast.MatMult), where)
                if isinstance(node.op, ast.Pow):
                    self.assertIsInstance(node.right, ast.Constant, where)
            if isinstance(node, ast.ListComp):
                self.assertEqual(len(node.generators), 1, where)
                self.assertLessEqual(len(node.generators[0].ifs), 1, where)
            if isinstance(node, ast.Compare) and any(isinstance(op, (ast.Is, ast.IsNot)) for op in node.ops):
                self.assertIn(ast.unparse(node.comparators[0]), ("None", "True", "False"), where)

    def test_tops(self):
        for name, tree in self.trees.items():
            functions = []
            bound = []
            for place, node in enumerate(tree.body):
                where = f"{name}:{node.lineno}"
                if isinstance(node, ast.ImportFrom):
                    self.assertEqual(node.level, 0, where)
                    self.assertRegex(node.module, r"^linerooms\.[a-z]+$", where)
                    bound += [one.name for one in node.names]
                    self.assertFalse(any(one.asname or one.name == "*" for one in node.names), where)
                elif isinstance(node, ast.Assign):
                    self.assertTrue(is_plain(node.value, functions), where)
                    bound.append(node.targets[0].id)
                elif isinstance(node, (ast.FunctionDef, ast.ClassDef)):
                    functions.append(node.name)
                    bound.append(node.name)
                else:
                    self.assertTrue(place == 0 and ast.get_docstring(tree), where)
            self.assertEqual(len(bound), len(set(bound)), name)

    def test_imports_go_one_way(self):
        draws = {}
        for name, tree in self.trees.items():
            rows = [node for node in tree.body if isinstance(node, ast.ImportFrom)]
            draws[name] = {node.module.split(".")[1] + ".py" for node in rows}
            for node in rows:
                source = self.trees[node.module.split(".")[1] + ".py"]
                for one in node.names:
                    tops = [top.name for top in source.body if hasattr(top, "name")]
                    tops += [top.targets[0].id for top in source.body if isinstance(top, ast.Assign)]
                    self.assertIn(one.name, tops, name)
        while draws:
            free = [name for name, drawn in draws.items() if not drawn & set(draws)]
            self.assertTrue(free, draws)
            for name in free:
                del draws[name]

    def test_functions_and_classes(self):
        for where, node in self.nodes(ast.FunctionDef, ast.Lambda):
            told = node.args
            self.assertFalse(told.vararg or told.kwarg or told.kwonlyargs or told.posonlyargs, where)
            self.assertFalse(getattr(node, "decorator_list", None), where)
        for where, node in self.nodes(ast.ClassDef):
            self.assertFalse(node.decorator_list or node.keywords or len(node.bases) > 1, where)
            for one in node.body:
                self.assertIsInstance(one, (ast.FunctionDef, ast.Expr), where)

    def test_names(self):
        for name, tree in self.trees.items():
            imports = [one.name for node in tree.body if isinstance(node, ast.ImportFrom) for one in node.names]
            classes = [node.name for node in tree.body if isinstance(node, ast.ClassDef)]
            bound = bound_names(tree)
            for one in bound:
                if one != "__init__":
                    self.assertRegex(one, r"^[A-Za-z][A-Za-z0-9_]*$", name)
                    self.assertNotIn(one, PYTHONS_OWN | set(NOT_NAMES) | set(imports), name)
            for one in classes:
                self.assertEqual(bound.count(one), 1, name)
            known = set(bound) | set(imports) | set(OWN_FUNCTIONS) | set(OWN_ERRORS)
            for node in ast.walk(tree):
                if isinstance(node, ast.Name):
                    self.assertIn(node.id, known, f"{name}:{node.lineno}")

    def test_methods_and_values(self):
        methods = set()
        for where, node in self.nodes(ast.ClassDef):
            own = [one.name for one in node.body if isinstance(one, ast.FunctionDef)]
            self.assertEqual(len(own), len(set(own)), where)
            methods |= set(own)
        values = {node.attr for where, node in self.nodes(ast.Attribute) if isinstance(node.ctx, ast.Store)}
        self.assertFalse(methods & values)
        self.assertFalse((methods - {"__init__"} | values) & MEMBERS)
        for where, node in self.nodes(ast.Attribute):
            self.assertIn(node.attr, methods | values | set(OWN_METHODS), where)
            self.assertNotIn(node.attr, NOT_NAMES, where)

    def test_pythons_own_are_called_where_they_stand(self):
        called = {id(node.func) for where, node in self.nodes(ast.Call)}
        for where, node in self.nodes(ast.Name):
            if node.id in OWN_FUNCTIONS:
                self.assertIn(id(node), called, where)

    def test_walked_at_once(self):
        walked = set()
        for where, node in self.nodes(ast.For, ast.comprehension):
            walked.add(id(node.iter))
        for where, node in self.nodes(ast.Call):
            holders = ("list", "tuple", "dict", "sorted", "sum", "any", "all", "enumerate", "zip", "min", "max")
            if isinstance(node.func, ast.Name) and node.func.id in holders and node.args:
                walked.add(id(node.args[0]))
        for where, node in self.nodes(ast.Call):
            if isinstance(node.func, ast.Name) and node.func.id in ("zip", "enumerate", "reversed", "range"):
                self.assertIn(id(node), walked, where)
            if isinstance(node.func, ast.Attribute) and node.func.attr in ("items", "keys", "values"):
                self.assertIn(id(node), walked, where)

    def test_values_of_tops_and_defaults(self):
        for name, tree in self.trees.items():
            for node in tree.body:
                if isinstance(node, ast.Assign) and isinstance(node.value, (ast.List, ast.Dict)):
                    inner = [one for one in ast.walk(node.value) if isinstance(one, (ast.List, ast.Dict))]
                    self.assertEqual(len(inner), 1, f"{name}:{node.lineno}")
        for where, node in self.nodes(ast.arguments):
            for one in node.defaults:
                self.assertTrue(is_plain(one, []), where)

    def test_lambdas_and_texts(self):
        seen = []
        for name, tree in self.trees.items():
            for node in ast.walk(tree):
                if isinstance(node, ast.Lambda):
                    seen.append((name, node.lineno, ast.unparse(node.args)))
        self.assertEqual(len(seen), len(set(seen)))
        for where, node in self.nodes(ast.FormattedValue):
            self.assertIsInstance(node.value, ast.Name, where)
            self.assertIn(node.conversion, (-1, ord("r")), where)
            self.assertIsNone(node.format_spec, where)
        for name, text in self.texts.items():
            self.assertIsNone(re.search(r"\\[^nt\\'\"]", text), name)

    def test_classes_are_called_or_named_as_bases_and_errors(self):
        classes = {node.name for where, node in self.nodes(ast.ClassDef)}
        allowed = {id(node.func) for where, node in self.nodes(ast.Call)}
        allowed |= {id(one) for where, node in self.nodes(ast.ClassDef) for one in node.bases}
        allowed |= {id(node.type) for where, node in self.nodes(ast.ExceptHandler)}
        for where, node in self.nodes(ast.Call):
            if isinstance(node.func, ast.Name) and node.func.id == "isinstance":
                allowed.add(id(node.args[1]))
        for where, node in self.nodes(ast.Name):
            if node.id in classes:
                self.assertIn(id(node), allowed, where)

    def test_special_methods(self):
        for where, node in self.nodes(ast.ClassDef):
            for one in node.body:
                if isinstance(one, ast.FunctionDef) and one.name.startswith("__"):
                    self.assertEqual(one.name, "__init__", where)
                    self.assertFalse([sub for sub in ast.walk(one) if isinstance(sub, ast.Return)], where)

    def test_keywords(self):
        may = {"sorted": ("key", "reverse"), "min": ("key", "default"), "max": ("key", "default"), "sum": ("start",),
               "enumerate": ("start",), "zip": ("strict",)}
        for where, node in self.nodes(ast.Call):
            name = node.func.id if isinstance(node.func, ast.Name) else node.func.attr
            if name in OWN_FUNCTIONS + OWN_ERRORS + OWN_METHODS:
                for one in node.keywords:
                    self.assertIn(one.arg, may.get(name, ()), where)

    def test_sets_are_not_kept(self):
        # A narrower rule than the language's own: the package has no need of a set at all.
        self.assertEqual([where for where, node in self.nodes(ast.Set)], [])
        self.assertEqual([where for where, node in self.nodes(ast.Name) if node.id in ("set", "frozenset")], [])

    def test_errors_are_taken_by_name(self):
        for where, node in self.nodes(ast.ExceptHandler):
            self.assertIsNotNone(node.type, where)
            self.assertNotIn(ast.unparse(node.type), ("Exception", "TypeError"), where)

    def test_what_a_loop_walks_is_not_changed_in_it(self):
        changing = ("append", "clear", "extend", "insert", "pop", "remove", "reverse", "setdefault", "update")
        for where, loop in self.nodes(ast.For):
            walked = {ast.unparse(node) for node in ast.walk(loop.iter) if isinstance(node, (ast.Name, ast.Attribute))}
            if isinstance(loop.iter, ast.Call) and ast.unparse(loop.iter.func) in ("range", "list", "sorted"):
                continue
            for node in ast.walk(ast.Module(loop.body, [])):
                if isinstance(node, ast.Subscript) and isinstance(node.ctx, ast.Store):
                    self.assertNotIn(ast.unparse(node.value), walked, where)
                if isinstance(node, ast.Call) and isinstance(node.func, ast.Attribute) and node.func.attr in changing:
                    self.assertNotIn(ast.unparse(node.func.value), walked, where)

    def test_powers(self):
        for where, node in self.nodes(ast.BinOp):
            if isinstance(node.op, ast.Pow):
                self.assertIn(node.right.value, range(65), where)


if __name__ == "__main__":
    unittest.main()
