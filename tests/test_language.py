"""The package's own files keep to the small part of Python that they are written in."""

import ast
import builtins
import pathlib
import re
import unittest

PACKAGE = pathlib.Path(__file__).resolve().parent.parent / "jobways"
OWN_NAMES = set(
    "len range enumerate zip min max sum abs sorted reversed int str bool list tuple dict set frozenset isinstance ord "
    "repr any all divmod Exception ValueError TypeError KeyError IndexError LookupError ZeroDivisionError "
    "ArithmeticError OverflowError RuntimeError NotImplementedError AttributeError StopIteration".split()
)
METHODS = set(
    "append clear copy count endswith extend find get index insert isalnum isalpha isdigit islower isspace isupper "
    "items join keys ljust lower lstrip partition pop remove replace reverse rfind rjust rpartition rsplit rstrip "
    "setdefault split splitlines startswith strip update upper values zfill bit_length".split()
)
OBJECT_METHODS = {"__init__", "__eq__", "__repr__", "__str__", "__len__"}
UNUSED_NAMES = set("register mro elements open input version_info with_traceback add_note format format_map".split())
UNUSED_WORDS = set(
    "type typing typing_extensions enum Enum IntEnum StrEnum Flag IntFlag Generic Protocol ABC ABCMeta namedtuple "
    "NamedTuple TypedDict TYPE_CHECKING abstractmethod".split()
)
UNUSED_PARTS = ("dataclass", "overload", "contextmanager")
NODES = (
    ast.Module, ast.ImportFrom, ast.alias, ast.FunctionDef, ast.arguments, ast.arg, ast.ClassDef, ast.Assign,
    ast.AugAssign, ast.If, ast.While, ast.For, ast.Return, ast.Break, ast.Continue, ast.Pass, ast.Raise, ast.Try,
    ast.ExceptHandler, ast.Expr, ast.Constant, ast.List, ast.Tuple, ast.Dict, ast.BinOp, ast.UnaryOp, ast.BoolOp,
    ast.Compare, ast.IfExp, ast.Call, ast.keyword, ast.Attribute, ast.Subscript, ast.Slice, ast.ListComp,
    ast.comprehension, ast.JoinedStr, ast.FormattedValue, ast.Name, ast.Lambda, ast.expr_context, ast.boolop,
    ast.operator, ast.unaryop, ast.cmpop,
)
BUILTIN_VALUES = (str, int, list, dict, set, bytes, tuple)
WALKED = {"zip", "enumerate", "reversed", "range"}


def sources():
    return sorted(PACKAGE.rglob("*.py"))


def trees():
    return [(path.name, ast.parse(path.read_text("ascii"))) for path in sources()]


class Files(unittest.TestCase):
    def test_only_plain_files(self):
        for path in PACKAGE.rglob("*"):
            if "__pycache__" in path.parts:
                continue
            self.assertTrue(path.is_file() and re.fullmatch(r"[a-z0-9_]+\.py", path.name), path)
            self.assertNotIn(path.stem, UNUSED_WORDS | set(dir(builtins)) | {"test", "tests", "testing", "site"})
        self.assertTrue((PACKAGE / "__init__.py").is_file())

    def test_signs_and_sizes(self):
        for path in sources():
            text = path.read_bytes().decode("ascii")
            self.assertRegex(text, r"\A[ -~\n]*\Z", path.name)
            lines = text.split("\n")
            self.assertLessEqual(len(lines), 400, path.name)
            self.assertLessEqual(max(len(line) for line in lines), 120, path.name)

    def test_words_that_stand_nowhere(self):
        for path in sources():
            text = path.read_text("ascii")
            self.assertEqual(set(re.findall(r"\w+", text)) & UNUSED_WORDS, set(), path.name)
            self.assertFalse([part for part in UNUSED_PARTS if part in text], path.name)


class Trees(unittest.TestCase):
    def each(self, kind):
        for name, tree in trees():
            for node in ast.walk(tree):
                if isinstance(node, kind):
                    yield f"{name}:{getattr(node, 'lineno', 0)}", node

    def test_nodes(self):
        for place, node in self.each(ast.AST):
            self.assertIsInstance(node, NODES, place)

    def test_imports(self):
        drawn = {}
        for name, tree in trees():
            rows = [row for row in ast.walk(tree) if isinstance(row, ast.ImportFrom)]
            self.assertTrue(all(row in tree.body for row in rows), name)
            drawn[name] = [row.module.split(".")[1] + ".py" for row in rows]
            for row in rows:
                self.assertEqual((row.level, row.module.split(".")[0]), (0, "jobways"))
                source = ast.parse((PACKAGE / (row.module.split(".")[1] + ".py")).read_text())
                self.assertLessEqual({alias.name for alias in row.names}, self.bound(source), name)
                self.assertTrue(all(alias.asname is None for alias in row.names), name)
        self.assertEqual(drawn["__init__.py"], [])
        while drawn:
            free = [name for name in drawn if not set(drawn[name]) & set(drawn)]
            self.assertTrue(free, "files draw from one another")
            drawn = {name: rows for name, rows in drawn.items() if name not in free}

    def bound(self, tree):
        names = [node.name for node in tree.body if isinstance(node, (ast.FunctionDef, ast.ClassDef))]
        names += [node.targets[0].id for node in tree.body if isinstance(node, ast.Assign)]
        self.assertEqual(len(names), len(set(names)))
        return set(names)

    def test_tops(self):
        for name, tree in trees():
            self.bound(tree)
            self.assertIsNotNone(ast.get_docstring(tree), name)
            for node in tree.body[1:]:
                self.assertIsInstance(node, (ast.ImportFrom, ast.FunctionDef, ast.ClassDef, ast.Assign), name)
                if isinstance(node, ast.Assign):
                    ast.literal_eval(node.value)

    def test_functions(self):
        for place, node in self.each((ast.FunctionDef, ast.Lambda)):
            row = node.args
            self.assertFalse(row.vararg or row.kwarg or row.kwonlyargs or row.posonlyargs, place)
            if isinstance(node, ast.FunctionDef):
                self.assertFalse(node.decorator_list, place)
                self.assertLessEqual(node.end_lineno - node.lineno + 1, 40, place)

    def test_classes(self):
        methods, kept = set(), set()
        for place, node in self.each(ast.ClassDef):
            self.assertFalse(node.decorator_list or node.keywords or len(node.bases) > 1, place)
            for part in node.body:
                is_text = isinstance(part, ast.Expr) and isinstance(part.value, ast.Constant)
                self.assertTrue(is_text or isinstance(part, ast.FunctionDef), place)
            names = [part.name for part in node.body if isinstance(part, ast.FunctionDef)]
            self.assertEqual(len(names), len(set(names)), place)
            methods |= set(names) - OBJECT_METHODS
        for place, node in self.each(ast.Attribute):
            if isinstance(node.ctx, ast.Store):
                kept.add(node.attr)
        self.assertEqual(methods & kept, set())
        taken = {name for kind in BUILTIN_VALUES for name in dir(kind)}
        self.assertEqual((methods | kept) & (taken | UNUSED_NAMES | {"args"}), set())

    def test_methods_that_are_called(self):
        own = {node.name for place, node in self.each(ast.FunctionDef)}
        for place, node in self.each(ast.Call):
            if isinstance(node.func, ast.Attribute):
                self.assertIn(node.func.attr, METHODS | own, place)
            self.assertFalse([part for part in node.args if isinstance(part, ast.Starred)], place)
            for word in node.keywords:
                self.assertIn(word.arg, ("key", "reverse", "default", "start", "strict"), place)

    def test_names(self):
        for name, tree in trees():
            defined = self.bound(tree) | {alias.name for node in tree.body if isinstance(node, ast.ImportFrom)
                                          for alias in node.names}
            imported = defined - self.bound(tree)
            classes = {node.name for node in tree.body if isinstance(node, ast.ClassDef)}
            for node in ast.walk(tree):
                if isinstance(node, ast.arg):
                    local = node.arg
                elif isinstance(node, ast.Name) and isinstance(node.ctx, ast.Store):
                    local = node.id
                elif isinstance(node, ast.Name):
                    self.assertFalse(hasattr(builtins, node.id) and node.id not in OWN_NAMES, f"{name}: {node.id}")
                    continue
                else:
                    continue
                self.assertRegex(local, r"\A[A-Za-z][A-Za-z0-9_]*\Z", name)
                self.assertNotIn(local, imported | classes | set(dir(builtins)) | UNUSED_NAMES, name)

    def test_single_targets_and_no_else_behind_a_loop(self):
        for place, node in self.each(ast.Assign):
            self.assertEqual(len(node.targets), 1, place)
            self.assertNotIsInstance(node.targets[0], (ast.Tuple, ast.List), place)
        for place, node in self.each((ast.While, ast.For)):
            self.assertFalse(node.orelse, place)

    def test_comprehensions(self):
        for place, node in self.each(ast.ListComp):
            self.assertEqual(len(node.generators), 1, place)
            self.assertLessEqual(len(node.generators[0].ifs), 1, place)

    def test_numbers_and_texts(self):
        for place, node in self.each(ast.Constant):
            self.assertIsInstance(node.value, (int, str, type(None)), place)
            if isinstance(node.value, str):
                self.assertNotIn("%", node.value, place)
        for place, node in self.each(ast.BinOp):
            self.assertNotIsInstance(node.op, (ast.Div, ast.MatMult), place)
            if isinstance(node.op, ast.Pow):
                self.assertIsInstance(node.right, ast.Constant, place)

    def test_is_stands_beside_none_true_and_false(self):
        for place, node in self.each(ast.Compare):
            for operator, right in zip(node.ops, node.comparators):
                if isinstance(operator, (ast.Is, ast.IsNot)):
                    self.assertIsInstance(right, ast.Constant, place)

    def test_no_annotations(self):
        for place, node in self.each(ast.FunctionDef):
            self.assertIsNone(node.returns, place)
            self.assertFalse([part for part in node.args.args if part.annotation], place)

    def test_sets_and_walks_are_not_kept(self):
        for place, node in self.each((ast.Assign, ast.Return)):
            value = node.value
            if isinstance(value, ast.Call) and isinstance(value.func, ast.Name):
                self.assertNotIn(value.func.id, WALKED | {"set", "frozenset"}, place)


if __name__ == "__main__":
    unittest.main()
