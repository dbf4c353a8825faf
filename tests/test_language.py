"""The package keeps to the part of Python that ../shared/LANGUAGE.md tells, as far as a program can see it."""

import ast
import builtins
import pathlib
import re
import unittest

PACKAGE = pathlib.Path(__file__).resolve().parent.parent / "arrowrows"
FILES = sorted(PACKAGE.glob("*.py"))

NODES = (
    ast.Module, ast.ImportFrom, ast.alias, ast.FunctionDef, ast.arguments, ast.arg, ast.ClassDef, ast.Assign,
    ast.AugAssign, ast.If, ast.While, ast.For, ast.Return, ast.Break, ast.Continue, ast.Pass, ast.Raise, ast.Try,
    ast.ExceptHandler, ast.Expr, ast.Constant, ast.List, ast.Tuple, ast.Dict, ast.BinOp, ast.UnaryOp, ast.BoolOp,
    ast.Compare, ast.IfExp, ast.Call, ast.Attribute, ast.Subscript, ast.Slice, ast.ListComp, ast.comprehension,
    ast.Name, ast.Load, ast.Store, ast.boolop, ast.unaryop, ast.operator, ast.cmpop, ast.keyword,
)
NEVER = (ast.Div, ast.MatMult)
BUILTINS = (
    "len range enumerate zip min max sum abs sorted reversed int str bool list tuple dict set isinstance ord repr any "
    "all divmod Exception ValueError KeyError IndexError LookupError").split()
METHODS = (
    "append clear copy count endswith extend find get index insert isalnum isalpha isdigit islower isspace isupper "
    "items join keys ljust lower lstrip partition pop remove replace reverse rfind rjust rpartition rsplit rstrip "
    "setdefault split splitlines startswith strip update upper values zfill bit_length").split()
BANNED_WORDS = (
    "type typing typing_extensions enum Enum IntEnum StrEnum Flag IntFlag Generic Protocol ABC ABCMeta namedtuple "
    "NamedTuple TypedDict TYPE_CHECKING abstractmethod").split()
PYTHONS_OWN = set(dir(builtins))
# What is walked on the spot, and the calls in which it may stand beside a loop's head.
WALKED = "zip enumerate reversed range items keys values".split()
WALKERS = "list tuple dict sorted sum any all enumerate zip min max".split()


TREES = [(path.name, ast.parse(path.read_text())) for path in FILES]


def nodes(kind):
    return [(name, node) for name, tree in TREES for node in ast.walk(tree) if isinstance(node, kind)]


def bound_at_top(tree):
    names = []
    for node in tree.body:
        if isinstance(node, (ast.FunctionDef, ast.ClassDef)):
            names.append(node.name)
        elif isinstance(node, ast.ImportFrom):
            names += [alias.asname or alias.name for alias in node.names]
        elif isinstance(node, ast.Assign):
            names += [target.id for target in node.targets]
    return names


def bound_within(tree):
    names = [node.arg for node in ast.walk(tree) if isinstance(node, ast.arg)]
    for top in tree.body:
        if not isinstance(top, ast.Assign):
            named = [node for node in ast.walk(top) if isinstance(node, ast.Name)]
            names += [node.id for node in named if isinstance(node.ctx, ast.Store)]
    return names


class Language(unittest.TestCase):
    def test_nothing_but_plain_files(self):
        left = [path.name for path in PACKAGE.iterdir() if path.name != "__pycache__" and path not in FILES]
        self.assertEqual(left, [])
        for path in FILES:
            self.assertRegex(path.name, r"^([a-z][a-z0-9_]*|__init__)\.py$")

    def test_sizes_and_signs(self):
        for path in FILES:
            text = path.read_text()
            lines = text.split("\n")
            self.assertLessEqual(len(lines), 400, path.name)
            for line in lines:
                self.assertLessEqual(len(line), 120, line)
            self.assertIsNone(re.search(r"[^ -~\n]", text), path.name)
            for word in BANNED_WORDS:
                self.assertIsNone(re.search(rf"\b{word}\b", text), (path.name, word))
            for word in ("dataclass", "overload", "contextmanager"):
                self.assertNotIn(word, text)
        for name, node in nodes(ast.FunctionDef):
            self.assertLessEqual(node.end_lineno - node.lineno + 1, 40, (name, node.name))

    def test_statements_and_expressions(self):
        for name, node in nodes(ast.AST):
            self.assertTrue(isinstance(node, NODES) and not isinstance(node, NEVER), (name, ast.dump(node)))

    def test_plain_forms(self):
        for name, node in nodes(ast.Assign):
            self.assertEqual(len(node.targets), 1)
            self.assertNotIsInstance(node.targets[0], (ast.Tuple, ast.List))
        for name, node in nodes(ast.ListComp):
            self.assertEqual(len(node.generators), 1)
            self.assertLessEqual(len(node.generators[0].ifs), 1)
        for name, node in nodes((ast.For, ast.While, ast.Try)):
            self.assertEqual((node.orelse, getattr(node, "finalbody", [])), ([], []))
        for name, node in nodes(ast.Compare):
            if isinstance(node.ops[0], (ast.Is, ast.IsNot)):
                self.assertIsInstance(node.comparators[0], ast.Constant)
        for name, node in nodes(ast.Constant):
            self.assertIsInstance(node.value, (int, str, type(None)))
        for name, node in nodes(ast.FunctionDef):
            self.assertEqual((node.decorator_list, node.args.vararg, node.args.kwarg, node.args.kwonlyargs),
                             ([], None, None, []))

    def test_imports_from_the_package_alone_and_in_no_ring(self):
        drawn = {}
        for name, tree in TREES:
            module = "arrowrows." + name[:-3]
            drawn[module] = []
            for node in tree.body:
                if isinstance(node, ast.ImportFrom):
                    self.assertEqual(node.level, 0)
                    self.assertTrue((PACKAGE / (node.module.split(".")[1] + ".py")).is_file(), node.module)
                    drawn[module].append(node.module)
                    source = ast.parse((PACKAGE / (node.module.split(".")[1] + ".py")).read_text())
                    for alias in node.names:
                        self.assertIn(alias.name, bound_at_top(source))
        self.assertEqual(len(nodes(ast.ImportFrom)), sum(len(modules) for modules in drawn.values()))
        while drawn:
            free = [module for module in drawn if not set(drawn[module]) & set(drawn)]
            self.assertNotEqual(free, [], "files draw from one another")
            for module in free:
                drawn.pop(module)

    def test_names(self):
        for name, tree in TREES:
            top = bound_at_top(tree)
            within = bound_within(tree)
            self.assertEqual(len(top), len(set(top)), name)
            for bound in top + within:
                self.assertRegex(bound, r"^[A-Za-z][A-Za-z0-9_]*$")
                self.assertNotIn(bound, PYTHONS_OWN, name)
            self.assertEqual(set(top) & set(within), set(), name)
            used = {node.id for node in ast.walk(tree) if isinstance(node, ast.Name)}
            self.assertEqual(used - set(top) - set(within) - set(BUILTINS), set(), name)

    def test_methods_and_values(self):
        own = {node.name for name, node in nodes(ast.FunctionDef)}
        called = [node.func for name, node in nodes(ast.Call)]
        values = set()
        for name, node in nodes(ast.Attribute):
            if any(node is func for func in called):
                self.assertIn(node.attr, own | set(METHODS), name)
            else:
                values.add(node.attr)
        for value in values:
            for python_value in ("", 0, [], {}, set(), b"", ()):
                self.assertFalse(hasattr(python_value, value), value)
        methods = {node.name for name, each in nodes(ast.ClassDef) for node in each.body
                   if isinstance(node, ast.FunctionDef)}
        self.assertEqual(values & methods, set())

    def test_walked_at_once_and_sets_not_kept(self):
        for name, tree in TREES:
            around = {child: node for node in ast.walk(tree) for child in ast.iter_child_nodes(node)}
            for node in ast.walk(tree):
                if isinstance(node, ast.Call):
                    called = node.func.id if isinstance(node.func, ast.Name) else node.func.attr
                    outer = around[node]
                    taker = outer.func.id if isinstance(outer, ast.Call) and isinstance(outer.func, ast.Name) else None
                    if called in WALKED:
                        walked = isinstance(outer, (ast.For, ast.comprehension)) and outer.iter is node
                        self.assertTrue(walked or taker in WALKERS, (name, node.lineno))
                    if called == "set":
                        within = isinstance(outer, ast.Compare) or taker in ("len", "sorted")
                        self.assertTrue(within, (name, node.lineno))

    def test_what_lies_at_a_file_s_top_is_only_read(self):
        for name, tree in TREES:
            top = bound_at_top(tree)
            for node in ast.walk(tree):
                if isinstance(node, (ast.Subscript, ast.Attribute)) and isinstance(node.ctx, ast.Store):
                    while isinstance(node, (ast.Subscript, ast.Attribute)):
                        node = node.value
                    self.assertNotIn(node.id, top, name)

    def test_top_of_a_file(self):
        for name, tree in TREES:
            self.assertIsNotNone(ast.get_docstring(tree), name)
            for node in tree.body[1:]:
                self.assertIsInstance(node, (ast.ImportFrom, ast.FunctionDef, ast.ClassDef, ast.Assign), name)
                if isinstance(node, ast.Assign):
                    kinds = (ast.Constant, ast.UnaryOp, ast.USub, ast.Tuple, ast.List, ast.Dict, ast.Name, ast.Load)
                    for part in ast.walk(node.value):
                        self.assertIsInstance(part, kinds, name)


if __name__ == "__main__":
    unittest.main()
