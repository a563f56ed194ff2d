"""The form of the package's files, as far as it can be seen by going through them: LANGUAGE.md's rules by number."""

import ast
import builtins
import re
import unittest
from pathlib import Path

PACKAGE = Path(__file__).resolve().parent.parent / "setpress"

ERRORS = (
    "Exception ValueError TypeError KeyError IndexError LookupError ZeroDivisionError ArithmeticError OverflowError "
    "RuntimeError NotImplementedError AttributeError StopIteration"
).split()
BUILT_IN = (
    "len range enumerate zip min max sum abs sorted reversed int str bool list tuple dict set frozenset isinstance ord "
    "repr any all divmod"
).split() + ERRORS
METHODS = (
    "append clear copy count endswith extend find get index insert isalnum isalpha isdigit islower isspace isupper "
    "items join keys ljust lower lstrip partition pop remove replace reverse rfind rjust rpartition rsplit rstrip "
    "setdefault split splitlines startswith strip update upper values zfill bit_length"
).split()
WORDS = (
    "type typing typing_extensions enum Enum IntEnum StrEnum Flag IntFlag Generic Protocol ABC ABCMeta namedtuple "
    "NamedTuple TypedDict TYPE_CHECKING abstractmethod"
).split()
UNUSED = "register mro elements open input version_info with_traceback add_note format format_map".split()
SPECIAL = "__init__ __eq__ __repr__ __str__ __len__".split()
STATEMENTS = (
    ast.Assign, ast.AugAssign, ast.If, ast.While, ast.For, ast.Return, ast.Break, ast.Continue, ast.Pass, ast.Raise,
    ast.Try, ast.Expr, ast.FunctionDef, ast.ClassDef, ast.ImportFrom,
)
EXPRESSIONS = (
    ast.Constant, ast.List, ast.Tuple, ast.Dict, ast.Set, ast.BinOp, ast.UnaryOp, ast.BoolOp, ast.Compare, ast.IfExp,
    ast.Call, ast.Attribute, ast.Subscript, ast.Slice, ast.ListComp, ast.JoinedStr, ast.FormattedValue, ast.Lambda,
    ast.Name,
)


def sources():
    return {path.stem: path.read_text(encoding="utf-8") for path in sorted(PACKAGE.glob("*.py"))}


class Form(unittest.TestCase):

    def setUp(self):
        self.sources = sources()
        self.trees = {name: ast.parse(source) for name, source in self.sources.items()}

    def nodes(self, kind=ast.AST):
        for name, tree in self.trees.items():
            for node in ast.walk(tree):
                if isinstance(node, kind):
                    yield f"{name}:{getattr(node, 'lineno', 0)}", node

    def test_files(self):
        """L1, L14"""
        for path in PACKAGE.iterdir():
            if path.name != "__pycache__":
                self.assertRegex(path.name, r"\A[a-z0-9_]+\.py\Z")
                self.assertNotIn(path.stem, dir(builtins) + WORDS)
                self.assertNotRegex(path.stem, r"\A(test.*|site|conftest|sitecustomize|usercustomize)\Z")
        self.assertIn("__init__", self.sources)

    def test_signs_lines_and_words(self):
        """L10, L14, L17"""
        for name, source in self.sources.items():
            self.assertRegex(source, r"\A[ -~\n]*\Z", name)
            self.assertLessEqual(len(source.splitlines()), 400, name)
            for line in source.splitlines():
                self.assertLessEqual(len(line), 120, name)
            for word in WORDS:
                self.assertIsNone(re.search(rf"\b{word}\b", source), (name, word))
            self.assertNotRegex(source, "dataclass|overload|contextmanager")

    def test_functions(self):
        """L4, L10, L21"""
        for where, node in self.nodes(ast.FunctionDef):
            self.assertLessEqual(node.end_lineno - node.lineno + 1, 40, where)
            self.assertEqual(node.decorator_list, [], where)
            given = node.args
            self.assertEqual([given.vararg, given.kwarg, given.kwonlyargs, given.posonlyargs], [None, None, [], []])
            self.assertIsNone(node.returns, where)

    def test_imports(self):
        """L2, L16"""
        drawn = {name: [] for name in self.trees}
        for where, node in self.nodes((ast.Import, ast.ImportFrom)):
            self.assertIsInstance(node, ast.ImportFrom, where)
            self.assertEqual(node.level, 0, where)
            self.assertRegex(node.module, r"\Asetpress\.[a-z_]+\Z", where)
            source = node.module.split(".")[1]
            tops = [getattr(top, "name", None) for top in self.trees[source].body]
            tops += [target.id for top in self.trees[source].body if isinstance(top, ast.Assign)
                     for target in top.targets]
            for alias in node.names:
                self.assertIn(alias.name, tops, where)
            drawn[where.split(":")[0]].append(source)
        self.assertEqual(drawn["__init__"], [])
        while drawn:
            free = [name for name in drawn if not any(other in drawn for other in drawn[name])]
            self.assertNotEqual(free, [], "files that draw from one another")
            for name in free:
                del drawn[name]

    def test_tops(self):
        """L3, L15"""
        for name, tree in self.trees.items():
            bound = []
            for top in tree.body:
                self.assertIsInstance(top, (ast.Expr, ast.ImportFrom, ast.FunctionDef, ast.ClassDef, ast.Assign))
                if isinstance(top, ast.Expr):
                    self.assertIsInstance(top.value, ast.Constant)
                elif isinstance(top, ast.Assign):
                    ast.literal_eval(top.value)
                    bound += [target.id for target in top.targets]
                    for inner in list(ast.walk(top.value))[1:]:
                        self.assertNotIsInstance(inner, (ast.List, ast.Dict, ast.Set))
                elif isinstance(top, ast.ImportFrom):
                    bound += [alias.asname or alias.name for alias in top.names]
                else:
                    bound.append(top.name)
            self.assertEqual(len(bound), len(set(bound)), name)

    def test_statements_and_expressions(self):
        """L5, L6, L7, L19, L20, L27"""
        for where, node in self.nodes(ast.stmt):
            self.assertIsInstance(node, STATEMENTS, where)
            if isinstance(node, (ast.For, ast.While)):
                self.assertEqual(node.orelse, [], where)
            if isinstance(node, ast.Try):
                self.assertEqual(node.finalbody, [], where)
            if isinstance(node, ast.Assign):
                self.assertEqual(len(node.targets), 1, where)
                self.assertNotIsInstance(node.targets[0], (ast.Tuple, ast.List), where)
            if isinstance(node, ast.Expr):
                self.assertIsInstance(node.value, (ast.Constant, ast.Call), where)
        for where, node in self.nodes(ast.expr):
            self.assertIsInstance(node, EXPRESSIONS, where)
            if isinstance(node, ast.Constant):
                self.assertTrue(node.value is None or isinstance(node.value, (int, str)), where)
            if isinstance(node, ast.BinOp):
                self.assertNotIsInstance(node.op, (ast.Div, ast.MatMult), where)
            if isinstance(node, ast.BinOp) and isinstance(node.op, ast.Pow):
                self.assertIsInstance(node.right, ast.Constant, where)
            if isinstance(node, ast.Compare) and isinstance(node.ops[0], (ast.Is, ast.IsNot)):
                self.assertIsInstance(node.comparators[0], ast.Constant, where)
        for where, node in self.nodes(ast.ExceptHandler):
            self.assertIsInstance(node.type, ast.Name, where)
            self.assertNotIn(node.type.id, ("Exception", "TypeError"), where)

    def test_names(self):
        """L8, L12, L15, L17"""
        for name, tree in self.trees.items():
            own = {node.id for node in ast.walk(tree) if isinstance(node, ast.Name) and isinstance(node.ctx, ast.Store)}
            own |= {node.arg for node in ast.walk(tree) if isinstance(node, ast.arg)}
            taken = {alias.name for node in ast.walk(tree) if isinstance(node, ast.ImportFrom) for alias in node.names}
            taken |= {node.name for node in ast.walk(tree) if isinstance(node, ast.ClassDef)}
            self.assertEqual(own & taken, set(), name)
            defined = {node.name for node in tree.body if isinstance(node, (ast.FunctionDef, ast.ClassDef))}
            for word in own | defined:
                self.assertRegex(word, r"\A[A-Za-z][A-Za-z0-9_]*\Z", name)
                self.assertNotIn(word, dir(builtins) + UNUSED, name)
            used = {node.id for node in ast.walk(tree) if isinstance(node, ast.Name)}
            self.assertLessEqual(used & set(dir(builtins)), set(BUILT_IN), name)

    def test_classes_methods_and_values(self):
        """L5, L17, L18, L25, L26, L28"""
        methods, values = set(), set()
        for where, node in self.nodes(ast.ClassDef):
            self.assertEqual((node.decorator_list, node.keywords), ([], []), where)
            self.assertLessEqual(len(node.bases), 1, where)
            for part in node.body:
                self.assertIsInstance(part, (ast.FunctionDef, ast.Expr), where)
            names = [part.name for part in node.body if isinstance(part, ast.FunctionDef)]
            self.assertEqual(len(names), len(set(names)), where)
            methods |= set(names)
        for where, node in self.nodes(ast.Attribute):
            if isinstance(node.ctx, ast.Store):
                values.add(node.attr)
        self.assertEqual(methods & values, set())
        python_own = {name for value in ("", 0, [], {}, set(), b"", ()) for name in dir(value)}
        self.assertEqual((methods & python_own) - set(METHODS) - set(SPECIAL), set())
        self.assertEqual(values & python_own, set())
        self.assertEqual((methods | values) & set(UNUSED), set())
        for where, node in self.nodes(ast.Attribute):
            self.assertIn(node.attr, methods | values | set(METHODS), where)

    def test_tops_are_only_read(self):
        """L15"""
        for name, tree in self.trees.items():
            kept = {target.id for top in tree.body if isinstance(top, ast.Assign) for target in top.targets
                    if isinstance(top.value, (ast.List, ast.Dict))}
            read = [node.value for node in ast.walk(tree)
                    if isinstance(node, ast.Subscript) and isinstance(node.ctx, ast.Load)]
            for node in ast.walk(tree):
                if isinstance(node, ast.Name) and isinstance(node.ctx, ast.Load) and node.id in kept:
                    self.assertTrue(any(node is other for other in read), f"{name}:{node.lineno}")

    def test_walked_at_once(self):
        """L23"""
        walked = [node.iter for where, node in self.nodes((ast.For, ast.comprehension))]
        for where, node in self.nodes(ast.Call):
            called = getattr(node.func, "id", getattr(node.func, "attr", ""))
            if called in ("zip", "enumerate", "reversed", "range", "items", "keys", "values"):
                self.assertTrue(any(node is other for other in walked), where)

    def test_no_sets_and_no_lambdas(self):
        """L13, L24: none are needed"""
        for where, node in self.nodes((ast.Set, ast.Lambda)):
            self.fail(where)
        for where, node in self.nodes(ast.Name):
            self.assertNotIn(node.id, ("set", "frozenset"), where)

    def test_errors(self):
        """L19: an error is made where it's raised, and the program's own alone are taken"""
        own = {node.name for node in self.trees["refusals"].body if isinstance(node, ast.ClassDef)}
        for where, node in self.nodes(ast.Raise):
            self.assertIsInstance(node.exc, ast.Call, where)
            self.assertIn(node.exc.func.id, own, where)
            self.assertTrue(node.cause is None or node.cause.value is None, where)
        for where, node in self.nodes(ast.ExceptHandler):
            self.assertIn(node.type.id, own, where)


if __name__ == "__main__":
    unittest.main()
