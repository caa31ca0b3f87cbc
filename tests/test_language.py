"""The package's files keep to the small part of Python that they are written in."""

import ast
import builtins
import pathlib
import re
import unittest

PACKAGE = pathlib.Path(__file__).resolve().parent.parent / "logpieces"
FILES = sorted(path for path in PACKAGE.rglob("*") if path.is_file() and "__pycache__" not in path.parts)

STATEMENTS = (
    ast.Assign, ast.AugAssign, ast.If, ast.While, ast.For, ast.Return, ast.Break, ast.Continue, ast.Pass,
    ast.Raise, ast.Try, ast.Expr, ast.FunctionDef, ast.ClassDef, ast.ImportFrom,
)
EXPRESSIONS = (
    ast.Constant, ast.Name, ast.Attribute, ast.Call, ast.Subscript, ast.Slice, ast.List, ast.Tuple, ast.Dict,
    ast.BinOp, ast.UnaryOp, ast.BoolOp, ast.Compare, ast.IfExp, ast.ListComp, ast.JoinedStr, ast.FormattedValue,
    ast.Lambda,
)
OWN_NAMES = (
    "len range enumerate zip min max sum abs sorted reversed int str bool list tuple dict set frozenset isinstance "
    "ord repr any all divmod Exception ValueError KeyError IndexError LookupError ZeroDivisionError StopIteration"
).split()
OWN_METHODS = (
    "append clear copy count endswith extend find get index insert isalnum isalpha isdigit islower isspace isupper "
    "items join keys ljust lower lstrip partition pop remove replace reverse rfind rjust rpartition rsplit rstrip "
    "setdefault split splitlines startswith strip update upper values zfill bit_length"
).split()
FORBIDDEN_NAMES = (
    "register mro elements open input version_info with_traceback add_note format format_map attrgetter breakpoint "
    "builtins compile copyright credits delattr dir eval exec exit gc getattr globals hasattr help id importlib "
    "license locals methodcaller os quit setattr super type vars sys chr"
).split()
FORBIDDEN_WORDS = re.compile(
    r"\b(type|typing|typing_extensions|enum|Enum|IntEnum|StrEnum|Flag|IntFlag|Generic|Protocol|ABC|ABCMeta|namedtuple"
    r"|NamedTuple|TypedDict|TYPE_CHECKING|abstractmethod)\b|dataclass|overload|contextmanager")
WALKED_AT_ONCE = ("zip", "enumerate", "reversed", "range")
WALKED_METHODS = ("items", "keys", "values")
WALKERS = ("list", "tuple", "dict", "sorted", "sum", "any", "all", "enumerate", "zip", "min", "max")
CHANGES = ("append", "clear", "extend", "insert", "pop", "remove", "reverse", "setdefault", "update")
KEYWORDS = {
    "sorted": ("key", "reverse"), "min": ("key", "default"), "max": ("key", "default"), "sum": ("start",),
    "enumerate": ("start",), "zip": ("strict",),
}
TAKEN_BY_VALUES = {
    name for kind in (str, int, list, dict, set, bytes, tuple) for name in dir(kind) if not name.startswith("__")
}


def tree_of(path):
    return ast.parse(path.read_text(encoding="utf-8"))


def top_names(tree):
    found = []
    for statement in tree.body:
        if isinstance(statement, (ast.FunctionDef, ast.ClassDef)):
            found.append(statement.name)
        if isinstance(statement, ast.Assign):
            found.append(statement.targets[0].id)
    return found


def imported(tree):
    return [(statement.module, alias.name) for statement in tree.body if isinstance(statement, ast.ImportFrom)
            for alias in statement.names]


def functions(tree):
    return [node for node in ast.walk(tree) if isinstance(node, ast.FunctionDef)]


def bound_names(tree):
    """Parameters and locals."""
    found = []
    for function in functions(tree):
        found += [argument.arg for argument in function.args.args]
        for node in ast.walk(function):
            if isinstance(node, ast.Name) and isinstance(node.ctx, ast.Store):
                found.append(node.id)
            if isinstance(node, ast.ExceptHandler) and node.name:
                found.append(node.name)
    return found


def is_plain(node, above):
    if isinstance(node, ast.UnaryOp):
        return isinstance(node.op, ast.USub) and is_plain(node.operand, above)
    if isinstance(node, ast.Tuple):
        return all(is_plain(part, above) for part in node.elts)
    if isinstance(node, ast.Name):
        return node.id in above
    return isinstance(node, ast.Constant) and isinstance(node.value, (int, str, type(None)))


def called_name(call):
    return call.func.id if isinstance(call.func, ast.Name) else getattr(call.func, "attr", "")


def changed_in(statements):
    """What the statements change in place, as it is written there."""
    found = []
    for statement in statements:
        for node in ast.walk(statement):
            if isinstance(node, ast.Subscript) and isinstance(node.ctx, ast.Store):
                found.append(ast.unparse(node.value))
            if isinstance(node, ast.AugAssign):
                found.append(ast.unparse(node.target))
            if isinstance(node, ast.Call) and isinstance(node.func, ast.Attribute) and node.func.attr in CHANGES:
                found.append(ast.unparse(node.func.value))
    return found


class Language(unittest.TestCase):
    def each(self):
        return [(path, tree_of(path)) for path in FILES]

    def test_files(self):
        self.assertTrue(FILES)
        for path in FILES:
            self.assertEqual(path.parent, PACKAGE)
            self.assertRegex(path.name, r"^[a-z][a-z0-9]*\.py$|^__init__\.py$")
            self.assertNotIn(path.stem, dir(builtins))
            text = path.read_bytes()
            self.assertTrue(all(byte == 10 or 32 <= byte <= 126 for byte in text), path.name)
            self.assertIsNone(FORBIDDEN_WORDS.search(text.decode()), path.name)
            lines = text.decode().split("\n")
            self.assertLessEqual(len(lines), 400)
            self.assertLessEqual(max(len(line) for line in lines), 120)

    def test_imports(self):
        drawn = {}
        for path, tree in self.each():
            drawn[path.stem] = [module.split(".")[1] for module, name in imported(tree)]
            for module, name in imported(tree):
                self.assertRegex(module, r"^logpieces\.[a-z]+$")
                self.assertIn(name, top_names(tree_of(PACKAGE / (module.split(".")[1] + ".py"))))
        self.assertEqual(drawn["__init__"], [])
        ready = []
        while len(ready) < len(drawn):
            free = [name for name in drawn if name not in ready and all(other in ready for other in drawn[name])]
            self.assertTrue(free, "files draw from one another")
            ready += free

    def test_top_of_files(self):
        for path, tree in self.each():
            self.assertIsNotNone(ast.get_docstring(tree))
            names = top_names(tree)
            self.assertEqual(len(names), len(set(names)))
            above = []
            for statement in tree.body[1:]:
                self.assertIsInstance(statement, (ast.ImportFrom, ast.FunctionDef, ast.ClassDef, ast.Assign))
                if isinstance(statement, ast.FunctionDef):
                    above.append(statement.name)
                if isinstance(statement, ast.Assign):
                    value = statement.value
                    parts = value.keys + value.values if isinstance(value, ast.Dict) else [value]
                    parts = value.elts if isinstance(value, ast.List) else parts
                    for part in parts:
                        self.assertTrue(is_plain(part, above), statement.lineno)

    def test_functions_and_classes(self):
        for path, tree in self.each():
            for function in functions(tree):
                self.assertLessEqual(function.end_lineno - function.lineno + 1, 40, function.name)
                self.assertEqual(function.decorator_list, [])
                given = function.args
                self.assertFalse(given.vararg or given.kwarg or given.kwonlyargs or given.posonlyargs)
                self.assertIsNone(function.returns)
            for node in ast.walk(tree):
                if isinstance(node, ast.ClassDef):
                    self.assertLessEqual(len(node.bases), 1)
                    self.assertEqual(node.keywords + node.decorator_list, [])
                    for number, statement in enumerate(node.body):
                        if number > 0 or not isinstance(statement, ast.Expr):
                            self.assertIsInstance(statement, ast.FunctionDef)

    def check_node(self, node):
        if isinstance(node, ast.stmt):
            self.assertIsInstance(node, STATEMENTS)
        if isinstance(node, ast.expr):
            self.assertIsInstance(node, EXPRESSIONS)
        if isinstance(node, ast.Assign):
            self.assertEqual(len(node.targets), 1)
            self.assertNotIsInstance(node.targets[0], ast.Tuple)
        if isinstance(node, (ast.For, ast.While)):
            self.assertEqual(node.orelse, [])
        if isinstance(node, ast.Try):
            self.assertEqual(node.finalbody, [])
        if isinstance(node, ast.ListComp):
            self.assertEqual(len(node.generators), 1)
            self.assertLessEqual(len(node.generators[0].ifs), 1)
        if isinstance(node, ast.BinOp):
            self.assertNotIsInstance(node.op, (ast.Div, ast.MatMult, ast.Pow))
        if isinstance(node, ast.Compare) and any(isinstance(op, (ast.Is, ast.IsNot)) for op in node.ops):
            self.assertTrue(any(isinstance(side, ast.Constant) for side in [node.left] + node.comparators))
        if isinstance(node, ast.Constant):
            self.assertNotIsInstance(node.value, (float, bytes, complex))
            self.assertFalse(isinstance(node.value, str) and "%" in node.value)
        if isinstance(node, ast.FormattedValue):
            self.assertIsInstance(node.value, ast.Name)

    def test_statements_and_expressions(self):
        for path, tree in self.each():
            for node in ast.walk(tree):
                with self.subTest(file=path.name, line=getattr(node, "lineno", 0)):
                    self.check_node(node)

    def test_names(self):
        for path, tree in self.each():
            known = top_names(tree) + [name for module, name in imported(tree)] + bound_names(tree)
            classes = [node.name for node in tree.body if isinstance(node, ast.ClassDef)]
            outside = classes + [name for module, name in imported(tree)]
            for name in bound_names(tree):
                self.assertNotIn(name, outside)
                self.assertNotIn(name, dir(builtins))
            for name in known:
                self.assertRegex(name, r"^[A-Za-z][A-Za-z0-9_]*$")
                self.assertNotIn(name, FORBIDDEN_NAMES)
            for node in ast.walk(tree):
                if isinstance(node, ast.Name) and node.id not in known:
                    self.assertIn(node.id, OWN_NAMES)

    def test_values_and_methods(self):
        methods = []
        values = []
        attributes = []
        for path, tree in self.each():
            for node in ast.walk(tree):
                if isinstance(node, ast.ClassDef):
                    methods += [part.name for part in node.body if isinstance(part, ast.FunctionDef)]
                if isinstance(node, ast.Attribute):
                    (values if isinstance(node.ctx, ast.Store) else attributes).append(node.attr)
        self.assertEqual(set(methods) & set(values), set())
        for name in methods + values:
            if name != "__init__":
                self.assertRegex(name, r"^[a-z][a-z0-9_]*$")
                self.assertNotIn(name, FORBIDDEN_NAMES)
                self.assertNotIn(name, TAKEN_BY_VALUES)
        for name in attributes:
            self.assertIn(name, methods + values + OWN_METHODS)

    def test_walked_at_once(self):
        for path, tree in self.each():
            allowed = []
            for node in ast.walk(tree):
                if isinstance(node, (ast.For, ast.comprehension)):
                    allowed.append(node.iter)
                if isinstance(node, ast.Call) and isinstance(node.func, ast.Name) and node.func.id in WALKERS:
                    allowed += node.args[:1]
            for node in ast.walk(tree):
                if isinstance(node, ast.Call) and called_name(node) in WALKED_AT_ONCE + WALKED_METHODS:
                    self.assertIn(node, allowed, (path.name, node.lineno))

    def test_what_a_loop_walks_is_not_changed(self):
        for path, tree in self.each():
            for loop in ast.walk(tree):
                if isinstance(loop, ast.For):
                    walked = [ast.unparse(node) for node in ast.walk(loop.iter)
                              if isinstance(node, (ast.Name, ast.Attribute))]
                    for changed in changed_in(loop.body):
                        self.assertNotIn(changed, walked, (path.name, loop.lineno))

    def test_no_sets(self):
        # The rules let a set stand in a few places; the package does without.
        for path, tree in self.each():
            for node in ast.walk(tree):
                self.assertNotIsInstance(node, (ast.Set, ast.SetComp))
                if isinstance(node, ast.Name):
                    self.assertNotIn(node.id, ("set", "frozenset"), path.name)

    def test_errors_are_the_packages_own(self):
        # Stricter than the rules: none of Python's own errors is taken.
        own = [node.name for path, tree in self.each() for node in ast.walk(tree) if isinstance(node, ast.ClassDef)]
        for path, tree in self.each():
            for node in ast.walk(tree):
                if isinstance(node, ast.ExceptHandler):
                    self.assertIsInstance(node.type, ast.Name)
                    self.assertIn(node.type.id, own)
                if isinstance(node, ast.Raise):
                    self.assertIsInstance(node.exc, ast.Call)
                    self.assertIn(node.exc.func.id, own)

    def test_names_of_pythons_own_are_called(self):
        for path, tree in self.each():
            allowed = []
            for node in ast.walk(tree):
                if isinstance(node, ast.Call):
                    allowed += [node.func] + [keyword.value for keyword in node.keywords if keyword.arg == "key"]
                    if called_name(node) in OWN_NAMES + OWN_METHODS:
                        for keyword in node.keywords:
                            self.assertIn(keyword.arg, KEYWORDS.get(called_name(node), ()), (path.name, node.lineno))
                if isinstance(node, ast.ClassDef):
                    allowed += node.bases
                if isinstance(node, ast.Attribute) and node.attr == "__init__":
                    allowed.append(node.value)
            for node in ast.walk(tree):
                if isinstance(node, ast.Name) and node.id in OWN_NAMES:
                    self.assertIn(node, allowed, (path.name, node.lineno))

    def test_methods_are_called_where_they_stand(self):
        methods = [part.name for path, tree in self.each() for node in ast.walk(tree) if isinstance(node, ast.ClassDef)
                   for part in node.body if isinstance(part, ast.FunctionDef)]
        for path, tree in self.each():
            called = [node.func for node in ast.walk(tree) if isinstance(node, ast.Call)]
            for node in ast.walk(tree):
                if isinstance(node, ast.Attribute) and node.attr in methods + OWN_METHODS:
                    self.assertIn(node, called, (path.name, node.lineno))

    def test_beginnings_of_objects_give_nothing_back(self):
        for path, tree in self.each():
            for function in functions(tree):
                if function.name == "__init__":
                    self.assertFalse([node for node in ast.walk(function)
                                      if isinstance(node, ast.Return) and node.value is not None])

    def test_lists_of_a_files_top_are_only_read(self):
        for path, tree in self.each():
            for statement in tree.body:
                if not isinstance(statement, ast.Assign) or not isinstance(statement.value, (ast.List, ast.Dict)):
                    continue
                name = statement.targets[0].id
                uses = [node for node in ast.walk(tree) if isinstance(node, ast.Name) and node.id == name]
                read = [node.value for node in ast.walk(tree)
                        if isinstance(node, ast.Subscript) and isinstance(node.ctx, ast.Load)]
                self.assertTrue(all(use in read for use in uses[1:]), name)


if __name__ == "__main__":
    unittest.main()
