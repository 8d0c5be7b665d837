"""The package's files keep to the part of Python that the language rules (L1 to L28) leave."""

import ast
import builtins
import pathlib
import re
import unittest

FOLDER = pathlib.Path(__file__).resolve().parent.parent / "instants"
FILES = sorted(FOLDER.glob("*.py"))
OWN_BUILTINS = (
    "len range enumerate zip min max sum abs sorted reversed int str bool list tuple dict set frozenset"
    " isinstance ord repr any all divmod Exception ValueError TypeError KeyError IndexError LookupError"
    " ZeroDivisionError ArithmeticError OverflowError RuntimeError NotImplementedError AttributeError StopIteration"
).split()
METHODS = (
    "append clear copy count endswith extend find get index insert isalnum isalpha isdigit islower isspace"
    " isupper items join keys ljust lower lstrip partition pop remove replace reverse rfind rjust rpartition"
    " rsplit rstrip setdefault split splitlines startswith strip update upper values zfill bit_length"
).split()
STATEMENTS = (
    ast.Assign, ast.AugAssign, ast.If, ast.While, ast.For, ast.Return, ast.Break, ast.Continue, ast.Pass, ast.Raise,
    ast.Try, ast.Expr, ast.FunctionDef, ast.ClassDef, ast.ImportFrom,
)
EXPRESSIONS = (
    ast.Constant, ast.List, ast.Tuple, ast.Dict, ast.Set, ast.BinOp, ast.UnaryOp, ast.BoolOp, ast.Compare, ast.IfExp,
    ast.Call, ast.Attribute, ast.Subscript, ast.Slice, ast.ListComp, ast.Name, ast.JoinedStr, ast.FormattedValue,
    ast.Lambda,
)
NOT_USED = "register mro elements open input version_info with_traceback add_note format format_map".split()
NOT_NAMES = (
    "attrgetter breakpoint builtins compile copyright credits delattr dir eval exec exit gc getattr globals hasattr"
    " help id importlib license locals methodcaller os quit setattr super type vars sys chr"
).split()
NO_WORDS = re.compile(
    r"\b(type|typing|typing_extensions|enum|Enum|IntEnum|StrEnum|Flag|IntFlag|Generic|Protocol|ABC|ABCMeta|namedtuple"
    r"|NamedTuple|TypedDict|TYPE_CHECKING|abstractmethod)\b|dataclass|overload|contextmanager"
)
VALUES_OF_PYTHON = {
    name for kind in (str, int, list, dict, set, bytes, tuple, frozenset) for name in vars(kind)
}
VALUES_LET = "count index title find get join lower upper split strip copy add".split()


def tree_of(path):
    return ast.parse(path.read_text(encoding="utf-8"))


def plain(node, functions):
    """A plain value, or a list, tuple or dict of such and of the functions above it."""
    if isinstance(node, ast.Constant):
        return isinstance(node.value, (int, str, type(None)))
    if isinstance(node, (ast.List, ast.Tuple)):
        parts = node.elts
    elif isinstance(node, ast.Dict):
        parts = node.keys + node.values
    else:
        return False
    return all(isinstance(part, ast.Name) and part.id in functions or plain(part, functions) for part in parts)


class Form(unittest.TestCase):
    def each(self):
        for path in FILES:
            yield path, tree_of(path)

    def nodes(self, *kinds):
        for path, tree in self.each():
            for node in ast.walk(tree):
                if isinstance(node, kinds):
                    yield "%s:%d" % (path.name, getattr(node, "lineno", 0)), node

    def test_files(self):
        self.assertIn("__init__.py", [path.name for path in FILES])
        for path in FOLDER.iterdir():
            if path.name != "__pycache__":
                self.assertRegex(path.name, r"^[a-z_0-9]+\.py$")
                self.assertTrue(path.stem == "__init__" or not hasattr(builtins, path.stem), path.name)

    def test_signs_and_sizes(self):
        for path in FILES:
            text = path.read_text(encoding="utf-8")
            self.assertTrue(all(sign == "\n" or " " <= sign <= "~" for sign in text), path)
            self.assertLessEqual(len(text.splitlines()), 400, path)
            self.assertLessEqual(max(len(line) for line in text.splitlines()), 120, path)
            self.assertIsNone(NO_WORDS.search(text), path)
        for where, node in self.nodes(ast.FunctionDef):
            self.assertLessEqual(node.end_lineno - node.lineno + 1, 40, where)

    def test_tops(self):
        for path, tree in self.each():
            body = tree.body
            self.assertIsInstance(ast.get_docstring(tree), str, path)
            bound = []
            functions = []
            for node in body[1:]:
                where = "%s:%d" % (path.name, node.lineno)
                self.assertIsInstance(node, (ast.ImportFrom, ast.FunctionDef, ast.ClassDef, ast.Assign), where)
                if isinstance(node, ast.Assign):
                    self.assertIsInstance(node.targets[0], ast.Name, where)
                    self.assertTrue(plain(node.value, functions), where)
                    bound.append(node.targets[0].id)
                    if isinstance(node.value, (ast.List, ast.Dict)):
                        inner = [part for part in ast.walk(node.value) if isinstance(part, (ast.List, ast.Dict))]
                        self.assertEqual(len(inner), 1, where)
                elif isinstance(node, ast.ImportFrom):
                    bound += [name.name for name in node.names]
                else:
                    bound.append(node.name)
                    functions += [node.name] if isinstance(node, ast.FunctionDef) else []
            self.assertEqual(len(bound), len(set(bound)), path)

    def test_imports(self):
        drawn = {}
        for path, tree in self.each():
            drawn[path.stem] = []
            for node in ast.walk(tree):
                self.assertNotIsInstance(node, ast.Import)
                if isinstance(node, ast.ImportFrom):
                    self.assertIn(node, tree.body)
                    self.assertEqual(node.level, 0)
                    self.assertRegex(node.module, r"^instants\.[a-z_0-9]+$")
                    other = node.module.split(".")[1]
                    drawn[path.stem].append(other)
                    others = tree_of(FOLDER / (other + ".py")).body
                    tops = {part.name for part in others if isinstance(part, (ast.FunctionDef, ast.ClassDef))}
                    tops |= {part.targets[0].id for part in others if isinstance(part, ast.Assign)}
                    for name in node.names:
                        self.assertIn(name.name, tops)
                        self.assertIsNone(name.asname)
                    used = {part.id for part in ast.walk(tree) if isinstance(part, ast.Name)}
                    self.assertLessEqual({name.name for name in node.names}, used, path)
        self.assertEqual(drawn["__init__"], [])
        while drawn:
            ready = [name for name in drawn if not any(other in drawn for other in drawn[name])]
            self.assertTrue(ready, drawn)
            for name in ready:
                del drawn[name]

    def test_statements_and_expressions(self):
        for where, node in self.nodes(ast.stmt):
            self.assertIsInstance(node, STATEMENTS, where)
            if isinstance(node, ast.Assign):
                self.assertEqual(len(node.targets), 1, where)
                self.assertNotIsInstance(node.targets[0], (ast.Tuple, ast.List), where)
            if isinstance(node, (ast.For, ast.While)):
                self.assertEqual(node.orelse, [], where)
            if isinstance(node, ast.Try):
                self.assertEqual(node.finalbody, [], where)
                for handler in node.handlers:
                    self.assertIsInstance(handler.type, ast.Name, where)
                    self.assertNotIn(handler.type.id, ("Exception", "TypeError", "BaseException"), where)
            if isinstance(node, ast.Expr) and not isinstance(node.value, ast.Call):
                self.assertIsInstance(node.value, ast.Constant, where)
                self.assertEqual(node.lineno, 1, where)
            if isinstance(node, ast.Raise):
                self.assertIsInstance(node.exc, ast.Call, where)
        for where, node in self.nodes(ast.expr):
            self.assertIsInstance(node, EXPRESSIONS, where)
            if isinstance(node, ast.ListComp):
                self.assertEqual(len(node.generators), 1, where)
                self.assertLessEqual(len(node.generators[0].ifs), 1, where)
            if isinstance(node, ast.BinOp):
                self.assertNotIsInstance(node.op, (ast.Div, ast.Pow, ast.MatMult), where)
            if isinstance(node, ast.Constant):
                self.assertIsInstance(node.value, (int, str, type(None)), where)
                if isinstance(node.value, str):
                    self.assertNotIn("%", node.value, where)
            if isinstance(node, ast.Compare):
                for sign, right in zip(node.ops, node.comparators):
                    if isinstance(sign, (ast.Is, ast.IsNot)):
                        self.assertIsInstance(right, ast.Constant, where)

    def test_functions_and_classes(self):
        for where, node in self.nodes(ast.FunctionDef):
            given = node.args
            self.assertEqual(node.decorator_list, [], where)
            self.assertTrue(given.vararg is None and given.kwarg is None and not given.kwonlyargs, where)
            self.assertFalse(given.posonlyargs, where)
            self.assertIsNone(node.returns, where)
            for name in given.args:
                self.assertIsNone(name.annotation, where)
        for where, node in self.nodes(ast.ClassDef):
            self.assertEqual(node.decorator_list, [], where)
            self.assertLessEqual(len(node.bases), 1, where)
            names = []
            for part in node.body:
                self.assertIsInstance(part, ast.FunctionDef, where)
                names.append(part.name)
            self.assertEqual(len(names), len(set(names)), where)

    def test_names(self):
        for path, tree in self.each():
            tops = {name.name for node in tree.body if isinstance(node, ast.ImportFrom) for name in node.names}
            tops |= {node.name for node in tree.body if isinstance(node, ast.ClassDef)}
            for node in ast.walk(tree):
                where = "%s:%d" % (path.name, getattr(node, "lineno", 0))
                if isinstance(node, ast.Name):
                    self.assertRegex(node.id, r"^[A-Za-z][A-Za-z0-9_]*$", where)
                    self.assertNotIn(node.id, NOT_NAMES + NOT_USED, where)
                    if isinstance(node.ctx, ast.Store):
                        self.assertNotIn(node.id, tops, where)
                        self.assertFalse(hasattr(builtins, node.id), where)
                    elif hasattr(builtins, node.id):
                        self.assertIn(node.id, OWN_BUILTINS, where)
                if isinstance(node, ast.arg):
                    self.assertRegex(node.arg, r"^[A-Za-z][A-Za-z0-9_]*$", where)
                    self.assertNotIn(node.arg, tops, where)
                    self.assertFalse(hasattr(builtins, node.arg), where)
                if isinstance(node, ast.FunctionDef) and node.name != "__init__":
                    self.assertRegex(node.name, r"^[A-Za-z][A-Za-z0-9_]*$", where)

    def test_methods_and_values(self):
        methods = set()
        values = set()
        for _, node in self.nodes(ast.ClassDef):
            methods |= {part.name for part in node.body}
        for where, node in self.nodes(ast.Call):
            if isinstance(node.func, ast.Attribute):
                self.assertIn(node.func.attr, METHODS + sorted(methods), where)
            self.assertEqual([word for word in node.keywords if word.arg not in ("key", "reverse")], [], where)
        for path, tree in self.each():
            called = {id(node.func) for node in ast.walk(tree) if isinstance(node, ast.Call)}
            for node in ast.walk(tree):
                if isinstance(node, ast.Attribute) and id(node) not in called:
                    where = "%s:%d %s" % (path.name, node.lineno, node.attr)
                    values.add(node.attr)
                    self.assertNotIn(node.attr, NOT_USED, where)
                    self.assertTrue(node.attr in VALUES_LET or node.attr not in VALUES_OF_PYTHON, where)
        self.assertEqual(methods & values, set())
        self.assertEqual((methods - {"__init__"}) & VALUES_OF_PYTHON - set(METHODS), set())

    def test_lists_and_dicts_of_a_files_top_are_only_read(self):
        for path, tree in self.each():
            kept = {
                node.targets[0].id for node in tree.body
                if isinstance(node, ast.Assign) and isinstance(node.value, (ast.List, ast.Dict))
            }
            allowed = set()
            for node in ast.walk(tree):
                if isinstance(node, ast.Subscript) and isinstance(node.ctx, ast.Load):
                    allowed.add(id(node.value))
                if isinstance(node, ast.Compare):
                    allowed |= {id(part) for part in node.comparators}
                if isinstance(node, ast.Attribute) and node.attr == "get":
                    allowed.add(id(node.value))
                if isinstance(node, ast.For):
                    allowed.add(id(node.iter))
            for node in ast.walk(tree):
                if isinstance(node, ast.Name) and node.id in kept and isinstance(node.ctx, ast.Load):
                    self.assertIn(id(node), allowed, "%s:%d" % (path.name, node.lineno))

    def test_sets_and_walks(self):
        for where, node in self.nodes(ast.Call):
            if isinstance(node.func, ast.Name):
                self.assertNotIn(node.func.id, ("set", "frozenset"), where)
        walked = set()
        for _, tree in self.each():
            for node in ast.walk(tree):
                if isinstance(node, (ast.For, ast.comprehension)):
                    walked.add(ast.dump(node.iter))
                if isinstance(node, ast.Call) and isinstance(node.func, ast.Name) and node.args:
                    if node.func.id in ("list", "tuple", "dict", "sorted", "sum", "any", "all", "enumerate", "zip"):
                        walked.add(ast.dump(node.args[0]))
        for where, node in self.nodes(ast.Call):
            if isinstance(node.func, ast.Name) and node.func.id in ("zip", "enumerate", "reversed", "range"):
                self.assertIn(ast.dump(node), walked, where)
