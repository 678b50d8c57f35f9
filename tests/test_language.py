"""The rules of LANGUAGE.md that can be seen in a file by itself, for every file of the package."""

import ast
import builtins
import pathlib
import re
import unittest

PACKAGE = pathlib.Path(__file__).resolve().parent.parent / "mineshaft"

OWN_NAMES = set(
    "len range enumerate zip min max sum abs sorted reversed int str bool list tuple dict set frozenset isinstance ord"
    " repr any all divmod Exception ValueError TypeError KeyError IndexError LookupError ZeroDivisionError"
    " ArithmeticError OverflowError RuntimeError NotImplementedError AttributeError StopIteration".split())
METHODS = set(
    "append clear copy count endswith extend find get index insert isalnum isalpha isdigit islower isspace isupper"
    " items join keys ljust lower lstrip partition pop remove replace reverse rfind rjust rpartition rsplit rstrip"
    " setdefault split splitlines startswith strip update upper values zfill bit_length".split())
VALUES_TAKEN = {name for kind in (str, int, list, dict, set, bytes) for name in dir(kind)} - set(
    "count index title find get join lower upper split strip copy add".split())
NOWHERE = set(
    "type typing typing_extensions enum Enum IntEnum StrEnum Flag IntFlag Generic Protocol ABC ABCMeta namedtuple"
    " NamedTuple TypedDict TYPE_CHECKING abstractmethod".split())
NOT_AS_NAMES = set(
    "register mro elements open input version_info with_traceback add_note attrgetter breakpoint builtins compile"
    " copyright credits delattr dir eval exec exit gc getattr globals hasattr help id importlib license locals"
    " methodcaller os quit setattr super type vars sys format format_map".split())
NODES = (
    ast.Module, ast.Expr, ast.ImportFrom, ast.alias, ast.FunctionDef, ast.ClassDef, ast.arguments, ast.arg, ast.Assign,
    ast.AugAssign, ast.If, ast.While, ast.For, ast.Return, ast.Break, ast.Continue, ast.Pass, ast.Name, ast.Attribute,
    ast.Subscript, ast.Slice, ast.Call, ast.keyword, ast.Constant, ast.List, ast.Tuple, ast.Dict, ast.ListComp,
    ast.comprehension, ast.BinOp, ast.BoolOp, ast.UnaryOp, ast.Compare, ast.IfExp, ast.operator, ast.boolop,
    ast.unaryop, ast.cmpop, ast.expr_context)


def names_bound(tree):
    for node in ast.walk(tree):
        if isinstance(node, ast.Name) and isinstance(node.ctx, ast.Store):
            yield node.id
        elif isinstance(node, ast.arg):
            yield node.arg
        elif isinstance(node, (ast.FunctionDef, ast.ClassDef)):
            yield node.name


class Files(unittest.TestCase):
    def setUp(self):
        self.paths = sorted(PACKAGE.glob("*.py"))
        self.texts = {path.name: path.read_text(encoding="utf-8") for path in self.paths}
        self.trees = {name: ast.parse(text) for name, text in self.texts.items()}

    def nodes(self, *kinds):
        for name, tree in self.trees.items():
            for node in ast.walk(tree):
                if isinstance(node, kinds):
                    yield name, node

    def test_files(self):
        others = [path.name for path in PACKAGE.iterdir() if path not in self.paths and path.name != "__pycache__"]
        self.assertEqual(others, [])
        self.assertIn("__init__.py", self.texts)
        for name in self.texts:
            self.assertRegex(name, r"\A[a-z0-9_]+\.py\Z")
            self.assertNotIn(name[:-3], dir(builtins))

    def test_size_and_signs(self):
        for name, text in self.texts.items():
            self.assertRegex(text, r"\A[ -~\n]*\Z", name)
            self.assertLessEqual(len(text.splitlines()), 400, name)
            self.assertLessEqual(max(len(line) for line in text.splitlines()), 120, name)
        for name, node in self.nodes(ast.FunctionDef):
            self.assertLessEqual(node.end_lineno - node.lineno + 1, 40, (name, node.name))

    def test_words_that_stand_nowhere(self):
        for name, text in self.texts.items():
            self.assertEqual(NOWHERE & set(re.findall(r"\w+", text)), set(), name)
            for word in ("dataclass", "overload", "contextmanager"):
                self.assertNotIn(word, text, name)

    def test_the_top_of_a_file(self):
        for name, tree in self.trees.items():
            allowed = (ast.Expr, ast.ImportFrom, ast.FunctionDef, ast.ClassDef, ast.Assign)
            bound = []
            for node in tree.body:
                self.assertIsInstance(node, allowed, name)
                if isinstance(node, ast.Expr):
                    self.assertIs(node, tree.body[0], name)
                elif isinstance(node, ast.Assign):
                    bound.append(node.targets[0].id)
                elif isinstance(node, ast.ImportFrom):
                    self.assertRegex(node.module, r"\Amineshaft\.[a-z]+\Z", name)
                    bound.extend(alias.name for alias in node.names)
                else:
                    bound.append(node.name)
            self.assertEqual(len(bound), len(set(bound)), name)

    def test_imports_go_one_way(self):
        drawn = {name[:-3]: set() for name in self.texts}
        for name, node in self.nodes(ast.ImportFrom):
            self.assertEqual(node.level, 0, name)
            drawn[name[:-3]].add(node.module.split(".")[1])
            self.assertEqual([alias.asname for alias in node.names if alias.asname], [], name)
        self.assertEqual(drawn["__init__"], set())
        while drawn:
            free = [name for name in drawn if not drawn[name]]
            self.assertTrue(free, drawn)
            drawn = {name: sources - set(free) for name, sources in drawn.items() if name not in free}

    def test_only_plain_statements_and_expressions(self):
        for name, tree in self.trees.items():
            for node in ast.walk(tree):
                self.assertIsInstance(node, NODES, (name, ast.dump(node)[:80]))
                self.assertNotIsInstance(node, (ast.Div, ast.MatMult, ast.Pow), name)
        for name, node in self.nodes(ast.For, ast.While):
            self.assertEqual(node.orelse, [], (name, node.lineno))
        for name, node in self.nodes(ast.Assign):
            self.assertEqual(len(node.targets), 1, (name, node.lineno))
            self.assertNotIsInstance(node.targets[0], (ast.Tuple, ast.List), (name, node.lineno))
        for name, node in self.nodes(ast.ListComp):
            self.assertEqual(len(node.generators), 1, (name, node.lineno))
            self.assertLessEqual(len(node.generators[0].ifs), 1, (name, node.lineno))
        for name, node in self.nodes(ast.Constant):
            self.assertIn(type(node.value), (int, str, bool, type(None)), (name, node.lineno))

    def test_functions_and_classes(self):
        for name, node in self.nodes(ast.FunctionDef):
            given = node.args
            self.assertFalse(given.vararg or given.kwarg or given.kwonlyargs or given.posonlyargs, (name, node.name))
            self.assertEqual(node.decorator_list, [], (name, node.name))
        for name, node in self.nodes(ast.ClassDef):
            self.assertEqual(node.decorator_list + node.keywords, [], (name, node.name))
            for part in node.body:
                self.assertIsInstance(part, ast.FunctionDef, (name, node.name))

    def test_is_stands_beside_none_true_and_false(self):
        for name, node in self.nodes(ast.Compare):
            for operator, other in zip(node.ops, node.comparators):
                if isinstance(operator, (ast.Is, ast.IsNot)):
                    self.assertIn(getattr(other, "value", 0), (None, True, False), (name, node.lineno))

    def test_names(self):
        for name, tree in self.trees.items():
            for bound in names_bound(tree):
                if bound != "__init__":
                    self.assertRegex(bound, r"\A[A-Za-z][A-Za-z0-9_]*\Z", name)
                    self.assertNotIn(bound, dir(builtins), name)
                    self.assertNotIn(bound, NOT_AS_NAMES, name)
            brought = {alias.name for node in tree.body if isinstance(node, ast.ImportFrom) for alias in node.names}
            classes = {node.name for node in tree.body if isinstance(node, ast.ClassDef)}
            for part in ast.walk(tree):
                if isinstance(part, ast.FunctionDef):
                    local = set(names_bound(part)) - {part.name}
                    self.assertEqual(local & (brought | classes), set(), (name, part.name))
        for name, node in self.nodes(ast.Name):
            if node.id in dir(builtins):
                self.assertIn(node.id, OWN_NAMES, (name, node.lineno))

    def test_methods_and_values(self):
        called = {id(node.func) for name, node in self.nodes(ast.Call)}
        own = {part.name for name, node in self.nodes(ast.ClassDef) for part in node.body}
        for name, node in self.nodes(ast.Attribute):
            self.assertNotIn(node.attr, NOT_AS_NAMES, (name, node.lineno))
            if id(node) in called:
                self.assertIn(node.attr, METHODS | own, (name, node.lineno))
            else:
                self.assertNotIn(node.attr, VALUES_TAKEN | own, (name, node.lineno))


if __name__ == "__main__":
    unittest.main()
