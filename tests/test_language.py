"""The package keeps to the small part of Python that it is written in, as far as a test can see it."""

import ast
import pathlib
import re
import unittest

PACKAGE = pathlib.Path(__file__).resolve().parent.parent / "callruns"

NODES = """Module Expr Constant ImportFrom alias FunctionDef arguments arg ClassDef Assign AugAssign If While For Return
Break Continue Pass Call Attribute Subscript Slice Name Load Store List Tuple Dict ListComp comprehension Lambda IfExp
BoolOp And Or UnaryOp Not USub BinOp Add Sub Mult FloorDiv Mod Pow BitAnd BitOr BitXor LShift RShift Compare Eq NotEq
Lt LtE Gt GtE In NotIn Is IsNot keyword""".split()

BUILT_IN = """len range enumerate zip min max sum abs sorted reversed int str bool list tuple dict isinstance ord repr
any all divmod""".split()

METHODS = """append clear copy count endswith extend find get index insert isalnum isalpha isdigit islower isspace
isupper items join keys ljust lower lstrip partition pop remove replace reverse rfind rjust rpartition rsplit rstrip
setdefault split splitlines startswith strip update upper values zfill bit_length""".split()

BANNED_WORDS = """type typing typing_extensions enum Enum IntEnum StrEnum Flag IntFlag Generic Protocol ABC ABCMeta
namedtuple NamedTuple TypedDict TYPE_CHECKING abstractmethod""".split()

BANNED_NAMES = """register mro elements open input version_info with_traceback add_note attrgetter breakpoint builtins
compile copyright credits delattr dir eval exec exit gc getattr globals hasattr help id importlib license locals
methodcaller os quit setattr super sys vars format format_map args encode sort hash next map filter iter
print""".split()

CHANGES = "append clear extend insert pop remove reverse setdefault update".split()


def files():
    return sorted(PACKAGE.rglob("*.py"))


def trees():
    return [(path, ast.parse(path.read_text(encoding="utf-8"))) for path in files()]


def bound_names(tree):
    names = []
    for node in ast.walk(tree):
        if isinstance(node, (ast.FunctionDef, ast.ClassDef)):
            names.append(node.name)
        elif isinstance(node, ast.arg):
            names.append(node.arg)
        elif isinstance(node, (ast.Name, ast.Attribute)) and isinstance(node.ctx, ast.Store):
            names.append(node.id if isinstance(node, ast.Name) else node.attr)
    return names


def methods_of(tree):
    return [node.name for owner in ast.walk(tree) if isinstance(owner, ast.ClassDef) for node in owner.body
            if isinstance(node, ast.FunctionDef)]


def attributes_of(tree):
    return [node.attr for node in ast.walk(tree) if isinstance(node, ast.Attribute) and isinstance(node.ctx, ast.Store)]


class LanguageTest(unittest.TestCase):
    def test_files(self):
        here = [path for path in PACKAGE.rglob("*") if "__pycache__" not in path.parts]
        for path in here:
            self.assertRegex(path.name, r"\A([a-z][a-z0-9_]*|__init__|__main__)\.py\Z")
        self.assertTrue((PACKAGE / "__init__.py").is_file())
        self.assertFalse([path for path in here if path.name.startswith(("test", "conftest"))])

    def test_signs_and_sizes(self):
        for path in files():
            rows = path.read_text(encoding="utf-8").split("\n")
            self.assertLessEqual(len(rows), 400, path)
            for number, row in enumerate(rows, start=1):
                self.assertRegex(row, r"\A[ -~]{0,120}\Z", (path, number))

    def test_words(self):
        for path in files():
            words = re.findall(r"\w+", path.read_text(encoding="utf-8"))
            self.assertFalse(set(words) & set(BANNED_WORDS), path)
            for within in ("dataclass", "overload", "contextmanager"):
                self.assertFalse([word for word in words if within in word], path)

    def test_only_listed_forms(self):
        for path, tree in trees():
            for node in ast.walk(tree):
                self.assertIn(type(node).__name__, NODES, (path, getattr(node, "lineno", 0)))

    def test_functions(self):
        for path, tree in trees():
            for node in ast.walk(tree):
                if isinstance(node, ast.FunctionDef):
                    self.assertLessEqual(node.end_lineno - node.lineno + 1, 40, (path, node.name))
                    self.assertFalse(node.decorator_list or node.args.vararg or node.args.kwarg or
                                     node.args.kwonlyargs or node.args.posonlyargs or node.returns, (path, node.name))
                if isinstance(node, ast.ClassDef):
                    self.assertFalse(node.decorator_list or node.keywords or len(node.bases) > 1, (path, node.name))
                    self.assertTrue(all(isinstance(row, ast.FunctionDef) for row in node.body), (path, node.name))

    def test_top_of_a_file(self):
        for path, tree in trees():
            self.assertIsNotNone(ast.get_docstring(tree), path)
            bound = []
            for node in tree.body[1:]:
                self.assertIsInstance(node, (ast.ImportFrom, ast.FunctionDef, ast.ClassDef, ast.Assign), path)
                if isinstance(node, ast.Assign):
                    ast.literal_eval(node.value)
                    bound.append(node.targets[0].id)
                elif not isinstance(node, ast.ImportFrom):
                    bound.append(node.name)
            self.assertEqual(len(bound), len(set(bound)), path)

    def test_expressions_by_themselves_are_calls(self):
        for path, tree in trees():
            inner = [node for node in ast.walk(tree) if isinstance(node, ast.Expr) and node is not tree.body[0]]
            self.assertTrue(all(isinstance(node.value, ast.Call) for node in inner), path)

    def test_one_target(self):
        for path, tree in trees():
            for node in ast.walk(tree):
                if isinstance(node, ast.Assign):
                    self.assertEqual(len(node.targets), 1, (path, node.lineno))
                    self.assertNotIsInstance(node.targets[0], (ast.Tuple, ast.List), (path, node.lineno))
                if isinstance(node, (ast.For, ast.While)):
                    self.assertFalse(node.orelse, (path, node.lineno))

    def test_imports(self):
        drawn = {}
        for path, tree in trees():
            for node in ast.walk(tree):
                if isinstance(node, ast.ImportFrom):
                    self.assertIn(node, tree.body)
                    self.assertEqual((node.level, node.module.split(".")[0]), (0, "callruns"), path)
                    self.assertFalse([one for one in node.names if one.asname or one.name == "*"], path)
                    source = PACKAGE.parent.joinpath(*node.module.split(".")).with_suffix(".py")
                    defined = bound_names(ast.parse(source.read_text(encoding="utf-8")))
                    self.assertLessEqual({one.name for one in node.names}, set(defined), path)
                    drawn.setdefault(path.stem, set()).add(source.stem)
        self.assertNotIn("__init__", drawn)
        for start in drawn:
            seen = set()
            ahead = set(drawn[start])
            while ahead - seen:
                seen |= ahead
                ahead = set().union(*[drawn.get(one, set()) for one in seen])
            self.assertNotIn(start, seen)

    def test_names(self):
        for path, tree in trees():
            for name in bound_names(tree):
                self.assertRegex(name, r"\A([A-Za-z][A-Za-z0-9_]*|__init__)\Z", path)
                self.assertNotIn(name, BANNED_NAMES + BUILT_IN, path)
            own = set(bound_names(tree))
            own |= {one.name for node in tree.body if isinstance(node, ast.ImportFrom) for one in node.names}
            for node in ast.walk(tree):
                if isinstance(node, ast.Name) and isinstance(node.ctx, ast.Load):
                    self.assertIn(node.id, own | set(BUILT_IN), (path, node.lineno))

    def test_locals_are_not_called_like_a_class_or_an_import(self):
        for path, tree in trees():
            taken = {node.name for node in tree.body if isinstance(node, ast.ClassDef)}
            taken |= {one.name for node in tree.body if isinstance(node, ast.ImportFrom) for one in node.names}
            for node in ast.walk(tree):
                if isinstance(node, ast.arg):
                    self.assertIsNone(node.annotation, (path, node.lineno))
                    self.assertNotIn(node.arg, taken, (path, node.lineno))
                if isinstance(node, ast.Name) and isinstance(node.ctx, ast.Store):
                    self.assertNotIn(node.id, taken, (path, node.lineno))

    def test_what_is_walked_is_not_changed_in_the_loop(self):
        for path, tree in trees():
            for loop in ast.walk(tree):
                if isinstance(loop, ast.For):
                    walked = {ast.unparse(node) for node in ast.walk(loop.iter) if isinstance(node, ast.expr)}
                    for node in [inner for row in loop.body for inner in ast.walk(row)]:
                        if isinstance(node, ast.Attribute) and node.attr in CHANGES:
                            self.assertNotIn(ast.unparse(node.value), walked - {"self"}, (path, node.lineno))
                        if isinstance(node, ast.Subscript) and isinstance(node.ctx, ast.Store):
                            self.assertNotIn(ast.unparse(node.value), walked - {"self"}, (path, node.lineno))

    def test_methods_and_values(self):
        methods = [name for path, tree in trees() for name in methods_of(tree)]
        values = [name for path, tree in trees() for name in attributes_of(tree)]
        self.assertFalse(set(methods) & set(values))
        taken = [name for kind in (str, int, list, dict, set, bytes) for name in dir(kind)]
        self.assertFalse((set(methods) - {"__init__"} | set(values)) & set(taken))
        for path, tree in trees():
            for node in ast.walk(tree):
                if isinstance(node, ast.Attribute) and isinstance(node.ctx, ast.Load):
                    self.assertIn(node.attr, set(METHODS) | set(methods) | set(values), (path, node.lineno))

    def test_is_stands_beside_none_true_and_false(self):
        for path, tree in trees():
            for node in ast.walk(tree):
                if isinstance(node, ast.Compare):
                    for sign, right in zip(node.ops, node.comparators):
                        if isinstance(sign, (ast.Is, ast.IsNot)):
                            self.assertIsInstance(right, ast.Constant, (path, node.lineno))
                            self.assertIn(right.value, (None, True, False), (path, node.lineno))

    def test_constants(self):
        for path, tree in trees():
            for node in ast.walk(tree):
                if isinstance(node, ast.Constant):
                    self.assertIsInstance(node.value, (int, str, type(None)), (path, node.lineno))

    def test_what_is_walked_on_the_spot(self):
        for path, tree in trees():
            walked = [node.iter for node in ast.walk(tree) if isinstance(node, (ast.For, ast.comprehension))]
            for node in ast.walk(tree):
                if isinstance(node, ast.Call) and isinstance(node.func, ast.Name):
                    if node.func.id in ("range", "zip", "enumerate", "reversed"):
                        self.assertIn(node, walked, (path, node.lineno))
                if isinstance(node, ast.Call) and isinstance(node.func, ast.Attribute):
                    if node.func.attr in ("items", "keys", "values"):
                        self.assertIn(node, walked, (path, node.lineno))

    def test_tables_at_the_top_are_only_read(self):
        for path, tree in trees():
            tops = [node.targets[0].id for node in tree.body if isinstance(node, ast.Assign)]
            for node in ast.walk(tree):
                if isinstance(node, ast.Attribute) and isinstance(node.value, ast.Name) and node.value.id in tops:
                    self.assertNotIn(node.attr, CHANGES, (path, node.lineno))
                if isinstance(node, ast.Subscript) and isinstance(node.value, ast.Name) and node.value.id in tops:
                    self.assertIsInstance(node.ctx, ast.Load, (path, node.lineno))


if __name__ == "__main__":
    unittest.main()
