"""The package's own files keep to the part of Python that is allowed (the rules that can be seen in a file)."""

import ast
import builtins
import pathlib
import re
import unittest

PACKAGE = pathlib.Path(__file__).resolve().parent.parent / "pathtimes"

OWN_NAMES = set(
    "len range enumerate zip min max sum abs sorted reversed int str bool list tuple dict set frozenset isinstance ord"
    " repr any all divmod Exception ValueError TypeError KeyError IndexError LookupError ZeroDivisionError"
    " ArithmeticError OverflowError RuntimeError NotImplementedError AttributeError StopIteration".split()
)
METHODS = set(
    "append clear copy count endswith extend find get index insert isalnum isalpha isdigit islower isspace isupper"
    " items join keys ljust lower lstrip partition pop remove replace reverse rfind rjust rpartition rsplit rstrip"
    " setdefault split splitlines startswith strip update upper values zfill bit_length".split()
)
UNUSED_NAMES = set("register mro elements open input version_info with_traceback add_note format format_map".split())
UNUSED_WORDS = re.compile(
    r"\b(type|typing|typing_extensions|enum|Enum|IntEnum|StrEnum|Flag|IntFlag|Generic|Protocol|ABC|ABCMeta|namedtuple"
    r"|NamedTuple|TypedDict|TYPE_CHECKING|abstractmethod)\b|dataclass|overload|contextmanager"
)
# Names that a method or a value may have although Python's own values have methods of that name.
FREE_NAMES = set("count index title find get join lower upper split strip copy add discard".split())
# Names that no value may have.
KEPT_NAMES = set(
    "items keys values pop update append clear extend insert remove reverse setdefault sort args encode format".split()
)
SPECIAL = ("__init__", "__eq__", "__repr__", "__str__", "__len__")
TOP = (ast.ImportFrom, ast.FunctionDef, ast.ClassDef, ast.Assign, ast.Expr)
STATEMENTS = TOP + (
    ast.AugAssign, ast.If, ast.While, ast.For, ast.Return, ast.Break, ast.Continue, ast.Pass, ast.Raise, ast.Try
)
EXPRESSIONS = (
    ast.Constant, ast.Name, ast.List, ast.Tuple, ast.Dict, ast.BinOp, ast.UnaryOp, ast.BoolOp, ast.Compare, ast.IfExp,
    ast.Call, ast.Attribute, ast.Subscript, ast.Slice, ast.ListComp, ast.JoinedStr, ast.FormattedValue, ast.Lambda,
    ast.Set
)


def is_docstring(node):
    return isinstance(node, ast.Expr) and isinstance(node.value, ast.Constant) and isinstance(node.value.value, str)


def plain_value(node):
    if isinstance(node, (ast.List, ast.Tuple)):
        return all(plain_value(part) for part in node.elts)
    if isinstance(node, ast.Dict):
        return all(plain_value(part) for part in node.keys + node.values)
    if isinstance(node, ast.UnaryOp) and isinstance(node.op, ast.USub):
        return isinstance(node.operand, ast.Constant)
    return isinstance(node, (ast.Constant, ast.Name))


def imported_files(tree):
    return [node.module for node in tree.body if isinstance(node, ast.ImportFrom) and node.module != "__future__"]


class Language(unittest.TestCase):
    @classmethod
    def setUpClass(cls):
        cls.texts = {path.stem: path.read_text(encoding="utf-8") for path in sorted(PACKAGE.glob("*.py"))}
        cls.trees = {name: ast.parse(text) for name, text in cls.texts.items()}
        cls.own_methods = set()
        for tree in cls.trees.values():
            for node in ast.walk(tree):
                if isinstance(node, ast.ClassDef):
                    cls.own_methods.update(part.name for part in node.body if isinstance(part, ast.FunctionDef))

    def nodes(self, *kinds):
        for name, tree in self.trees.items():
            for node in ast.walk(tree):
                if isinstance(node, kinds):
                    yield f"{name}.py:{getattr(node, 'lineno', 0)}", node

    def test_only_plain_python_files_lie_there(self):
        names = [path.name for path in PACKAGE.iterdir() if path.name != "__pycache__"]
        self.assertIn("__init__.py", names)
        for name in names:
            self.assertRegex(name, r"^[a-z][a-z0-9_]*\.py$|^__init__\.py$|^__main__\.py$")
            self.assertNotIn(name[:-3], dir(builtins))

    def test_signs_sizes_and_words(self):
        for name, text in self.texts.items():
            lines = text.split("\n")
            self.assertLessEqual(len(lines), 401, name)
            self.assertLessEqual(max(map(len, lines)), 120, name)
            self.assertEqual([sign for sign in text if not (" " <= sign <= "~" or sign == "\n")], [], name)
            self.assertIsNone(UNUSED_WORDS.search(text), name)

    def test_the_top_of_each_file(self):
        for name, tree in self.trees.items():
            bound = []
            for node in tree.body:
                where = f"{name}.py:{node.lineno}"
                self.assertIsInstance(node, TOP, where)
                if isinstance(node, ast.Expr):
                    self.assertTrue(is_docstring(node), where)
                elif isinstance(node, ast.Assign):
                    self.assertTrue(plain_value(node.value), where)
                    bound.append(node.targets[0].id)
                elif isinstance(node, ast.ImportFrom):
                    bound.extend(part.asname or part.name for part in node.names)
                else:
                    bound.append(node.name)
            self.assertEqual(len(bound), len(set(bound)), name)

    def test_imports_are_of_the_file_that_defines_the_name(self):
        for where, node in self.nodes(ast.Import, ast.ImportFrom):
            self.assertIsInstance(node, ast.ImportFrom, where)
            self.assertEqual(node.level, 0, where)
            if node.module == "__future__":
                continue
            self.assertTrue(node.module.startswith("pathtimes."), where)
            defined = []
            for part in self.trees[node.module.split(".")[1]].body:
                defined.extend([part.name] if isinstance(part, (ast.FunctionDef, ast.ClassDef)) else [])
                defined.extend([part.targets[0].id] if isinstance(part, ast.Assign) else [])
            for part in node.names:
                self.assertIn(part.name, defined, where)

    def test_no_two_files_draw_from_one_another(self):
        left = {f"pathtimes.{name}": imported_files(tree) for name, tree in self.trees.items()}
        while left:
            free = [name for name, drawn in left.items() if not any(other in left for other in drawn)]
            self.assertNotEqual(free, [], left)
            for name in free:
                left.pop(name)

    def test_functions(self):
        for where, node in self.nodes(ast.FunctionDef, ast.Lambda):
            given = node.args
            self.assertFalse(given.vararg or given.kwarg or given.kwonlyargs or given.posonlyargs, where)
            self.assertTrue(all(plain_value(value) for value in given.defaults), where)
            if isinstance(node, ast.FunctionDef):
                self.assertEqual(node.decorator_list, [], where)
                self.assertLessEqual(node.end_lineno - node.lineno + 1, 40, where)

    def test_classes(self):
        for where, node in self.nodes(ast.ClassDef):
            self.assertFalse(node.decorator_list or node.keywords or len(node.bases) > 1, where)
            for part in node.body:
                self.assertTrue(isinstance(part, (ast.FunctionDef, ast.Pass)) or is_docstring(part), where)

    def test_statements(self):
        for where, node in self.nodes(ast.stmt):
            self.assertIsInstance(node, STATEMENTS, where)
            if isinstance(node, ast.Assign):
                self.assertEqual(len(node.targets), 1, where)
            if isinstance(node, (ast.For, ast.While)):
                self.assertEqual(node.orelse, [], where)
            if isinstance(node, ast.Expr):
                self.assertTrue(isinstance(node.value, ast.Call) or is_docstring(node), where)
            if isinstance(node, ast.Try):
                self.assertEqual(node.finalbody, [], where)

    def test_expressions(self):
        for where, node in self.nodes(ast.expr):
            self.assertIsInstance(node, EXPRESSIONS, where)
            if isinstance(node, ast.BinOp):
                self.assertNotIsInstance(node.op, (ast.Div, ast.MatMult), where)
            if isinstance(node, ast.Constant):
                self.assertIsInstance(node.value, (int, str, type(None)), where)
            if isinstance(node, ast.FormattedValue):
                self.assertIsInstance(node.value, ast.Name, where)
            if isinstance(node, ast.ListComp):
                self.assertEqual(len(node.generators), 1, where)
                self.assertLessEqual(len(node.generators[0].ifs), 1, where)

    def test_names(self):
        bound = [(where, node.name) for where, node in self.nodes(ast.FunctionDef, ast.ClassDef)]
        bound.extend((where, node.arg) for where, node in self.nodes(ast.arg))
        for where, node in self.nodes(ast.Name):
            if isinstance(node.ctx, ast.Store):
                bound.append((where, node.id))
            elif node.id in dir(builtins):
                self.assertIn(node.id, OWN_NAMES, where)
        for where, name in bound:
            self.assertTrue(re.match(r"^[A-Za-z][A-Za-z0-9_]*$", name) or name in SPECIAL, f"{where} {name}")
            self.assertNotIn(name, dir(builtins) if name not in SPECIAL else (), where)
            self.assertNotIn(name, UNUSED_NAMES, where)

    def test_methods_that_are_called(self):
        for where, node in self.nodes(ast.Attribute):
            self.assertNotIn(node.attr, UNUSED_NAMES, where)
        for where, node in self.nodes(ast.Call):
            if isinstance(node.func, ast.Attribute):
                self.assertIn(node.func.attr, METHODS | self.own_methods, where)

    def test_sets_are_not_kept(self):
        for where, node in self.nodes(ast.Assign, ast.Return):
            made = isinstance(node.value, ast.Call) and isinstance(node.value.func, ast.Name)
            self.assertFalse(isinstance(node.value, ast.Set), where)
            self.assertFalse(made and node.value.func.id in ("set", "frozenset"), where)

    def test_no_name_is_a_method_and_a_value(self):
        given = set()
        for where, node in self.nodes(ast.Attribute):
            if isinstance(node.ctx, ast.Store):
                given.add(node.attr)
                self.assertNotIn(node.attr, KEPT_NAMES, where)
        self.assertEqual(given & self.own_methods, set())
        for name in (given | self.own_methods) - FREE_NAMES - set(SPECIAL):
            for value in ("", 0, [], {}, set(), b"", ()):
                self.assertFalse(hasattr(value, name), name)

    def test_locals_are_not_called_like_classes_or_imports(self):
        for name, tree in self.trees.items():
            taken = {part.name for part in tree.body if isinstance(part, ast.ClassDef)}
            for node in tree.body:
                if isinstance(node, ast.ImportFrom):
                    taken.update(part.asname or part.name for part in node.names)
            for node in ast.walk(tree):
                if isinstance(node, ast.arg):
                    self.assertNotIn(node.arg, taken, name)
                if isinstance(node, ast.Name) and isinstance(node.ctx, ast.Store):
                    self.assertNotIn(node.id, taken, name)

    def test_what_stands_at_the_top_is_only_read(self):
        tops = set()
        for tree in self.trees.values():
            for node in tree.body:
                if isinstance(node, ast.Assign) and isinstance(node.value, (ast.List, ast.Dict)):
                    tops.add(node.targets[0].id)
                    inner = [part for part in ast.walk(node.value) if part is not node.value]
                    self.assertFalse(any(isinstance(part, (ast.List, ast.Dict)) for part in inner), node.targets[0].id)
        for name, tree in self.trees.items():
            around = {child: node for node in ast.walk(tree) for child in ast.iter_child_nodes(node)}
            for node in ast.walk(tree):
                if not isinstance(node, ast.Name) or node.id not in tops or isinstance(node.ctx, ast.Store):
                    continue
                outer = around[node]
                read = isinstance(outer, ast.Subscript) and outer.value is node and isinstance(outer.ctx, ast.Load)
                read = read or isinstance(outer, ast.Compare)
                read = read or isinstance(outer, ast.Attribute) and outer.attr in ("get", "index", "count")
                self.assertTrue(read, f"{name}.py:{node.lineno}")

    def test_what_is_walked_at_once_is_not_kept(self):
        walked = ("zip", "enumerate", "reversed", "range")
        for name, tree in self.trees.items():
            around = {child: node for node in ast.walk(tree) for child in ast.iter_child_nodes(node)}
            for node in ast.walk(tree):
                if not isinstance(node, ast.Call):
                    continue
                by_name = isinstance(node.func, ast.Name) and node.func.id in walked
                by_method = isinstance(node.func, ast.Attribute) and node.func.attr in ("items", "keys", "values")
                if by_name or by_method:
                    outer = around[node]
                    fine = isinstance(outer, (ast.For, ast.comprehension)) and outer.iter is node
                    fine = fine or isinstance(outer, ast.Call) and isinstance(outer.func, ast.Name) and (
                        outer.func.id in ("list", "tuple", "dict", "sorted", "sum", "any", "all", "enumerate", "zip"))
                    self.assertTrue(fine, f"{name}.py:{node.lineno}")

    def test_errors_and_signs_that_are_out(self):
        for where, node in self.nodes(ast.BinOp):
            if isinstance(node.op, ast.Pow):
                self.assertIsInstance(node.right, ast.Constant, where)
        for where, node in self.nodes(ast.Constant):
            if isinstance(node.value, str):
                self.assertNotIn("%", node.value, where)
        for where, node in self.nodes(ast.Try, ast.Assert, ast.AnnAssign):
            self.fail(where)

    def test_is_stands_beside_none_true_and_false_alone(self):
        for where, node in self.nodes(ast.Compare):
            for sign, right in zip(node.ops, node.comparators):
                if isinstance(sign, (ast.Is, ast.IsNot)):
                    self.assertIn(getattr(right, "value", 0), (None, True, False), where)


if __name__ == "__main__":
    unittest.main()
