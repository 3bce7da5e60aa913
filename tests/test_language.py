"""The part of Python that the package keeps to: what a look at its files can tell of the rules L1 to L28."""

import ast
import builtins
import os
import re
import unittest

PACKAGE = os.path.join(os.path.dirname(os.path.dirname(os.path.abspath(__file__))), "fitpick")

NODES = (
    ast.Module, ast.ImportFrom, ast.alias, ast.FunctionDef, ast.arguments, ast.arg, ast.ClassDef,
    ast.Assign, ast.AugAssign, ast.If, ast.While, ast.For, ast.Return, ast.Break, ast.Continue, ast.Pass,
    ast.Raise, ast.Try, ast.ExceptHandler, ast.Expr, ast.Call, ast.keyword, ast.Lambda, ast.IfExp, ast.Constant,
    ast.List, ast.Tuple, ast.Dict, ast.Name, ast.Attribute, ast.Subscript, ast.Slice, ast.ListComp,
    ast.comprehension, ast.BinOp, ast.UnaryOp, ast.BoolOp, ast.Compare, ast.JoinedStr, ast.FormattedValue,
    ast.expr_context, ast.operator, ast.unaryop, ast.boolop, ast.cmpop,
)
ERRORS = (
    "Exception ValueError TypeError KeyError IndexError LookupError ZeroDivisionError ArithmeticError OverflowError "
    "RuntimeError NotImplementedError"
).split()
BUILT_IN = ERRORS + (
    "len range enumerate zip min max sum abs sorted reversed int str bool list tuple dict set isinstance ord repr any "
    "all divmod StopIteration"
).split()
METHODS = (
    "append clear copy count endswith extend find get index insert isalnum isalpha isdigit islower isspace isupper "
    "items join keys ljust lower lstrip partition pop remove replace reverse rfind rjust rpartition rsplit rstrip "
    "setdefault split splitlines startswith strip update upper values zfill bit_length"
).split()
CHANGES = "append clear extend insert pop remove reverse setdefault update".split()
KEYWORDS = {
    "sorted": ("key", "reverse"), "min": ("key", "default"), "max": ("key", "default"), "sum": ("start",),
    "enumerate": ("start",), "zip": ("strict",),
}
WALKED = ("zip", "enumerate", "reversed", "range")
WALKERS = ("list", "tuple", "dict", "sorted", "sum", "any", "all", "enumerate", "zip", "min", "max")
WORDS = re.compile(
    r"\b(type|typing|typing_extensions|enum|Enum|IntEnum|StrEnum|Flag|IntFlag|Generic|Protocol|ABC|ABCMeta|namedtuple"
    r"|NamedTuple|TypedDict|TYPE_CHECKING|abstractmethod)\b|dataclass|overload|contextmanager"
)
NOT_USED = (
    "register mro elements open input version_info with_traceback add_note attrgetter breakpoint builtins compile "
    "copyright credits delattr dir eval exec exit gc getattr globals hasattr help id importlib license locals "
    "methodcaller os quit setattr super sys vars format format_map"
).split()
PYTHONS_OWN = {name for kind in (str, int, list, tuple, dict, set, bytes) for name in dir(kind)}
VALUES_ALLOWED = "count index title find get join lower upper split strip copy add".split()
METHODS_ALLOWED = METHODS + ["add", "discard"]


class File:
    def __init__(self, name):
        self.name = name
        with open(os.path.join(PACKAGE, name), encoding="utf-8") as file:
            self.text = file.read()
        self.tree = ast.parse(self.text)
        self.nodes = list(ast.walk(self.tree))
        self.parent = {child: node for node in self.nodes for child in ast.iter_child_nodes(node)}

    def every(self, *kinds):
        return [node for node in self.nodes if isinstance(node, kinds)]

    def at(self, node):
        return f"{self.name}:{getattr(node, 'lineno', '?')}"

    def top_names(self):
        names = []
        for node in self.tree.body:
            if isinstance(node, (ast.FunctionDef, ast.ClassDef)):
                names.append(node.name)
            elif isinstance(node, ast.Assign):
                names.append(node.targets[0].id)
        return names

    def imported(self):
        return [alias.asname or alias.name for node in self.every(ast.ImportFrom) for alias in node.names]

    def local_names(self):
        names = [node.arg for node in self.every(ast.arg)]
        names += [node.name for node in self.every(ast.ExceptHandler) if node.name is not None]
        for node in self.every(ast.Name):
            if isinstance(node.ctx, ast.Store) and node.id not in self.top_names():
                names.append(node.id)
        return names


FILES = [File(name) for name in sorted(os.listdir(PACKAGE)) if name != "__pycache__"]
CLASSES = [(file, node) for file in FILES for node in file.every(ast.ClassDef)]
OWN_METHODS = [node.name for _, kind in CLASSES for node in kind.body if isinstance(node, ast.FunctionDef)]
OWN_CLASSES = [kind.name for _, kind in CLASSES]
OWN_ERRORS = [kind.name for _, kind in CLASSES if kind.bases and kind.bases[0].id in ERRORS]
OWN_VALUES = [
    node.attr for file in FILES for node in file.every(ast.Attribute) if isinstance(node.ctx, ast.Store)
]


def called(node):
    """The name of what is called, if it's a plain name."""
    return node.func.id if isinstance(node, ast.Call) and isinstance(node.func, ast.Name) else None


class Files(unittest.TestCase):
    def test_names_and_signs(self):
        self.assertIn("__init__.py", [file.name for file in FILES])
        for file in FILES:
            self.assertRegex(file.name, r"^[a-z0-9_]+\.py$")
            stem = file.name[:-3]
            self.assertFalse(re.fullmatch(r"tests?|testing|test_.*|site|conftest|(site|user)customize", stem))
            self.assertNotIn(stem, dir(builtins))
            self.assertRegex(file.text, r"\A[ -~\n]*\Z")
            self.assertIsNone(WORDS.search(file.text), file.name)

    def test_sizes(self):
        for file in FILES:
            self.assertLess(len(file.text.splitlines()), 400)
            for line in file.text.splitlines():
                self.assertLessEqual(len(line), 120)
            for node in file.every(ast.FunctionDef):
                self.assertLessEqual(node.end_lineno - node.lineno + 1, 40, file.at(node))

    def test_imports(self):
        drawn = {}
        for file in FILES:
            own = "fitpick." + file.name[:-3]
            drawn[own] = [node.module for node in file.every(ast.ImportFrom)]
            for node in file.every(ast.ImportFrom):
                self.assertIn(node, file.tree.body, file.at(node))
                self.assertEqual(node.level, 0)
                source = [other for other in FILES if "fitpick." + other.name[:-3] == node.module]
                self.assertEqual(len(source), 1, file.at(node))
                for alias in node.names:
                    self.assertIn(alias.name, source[0].top_names(), file.at(node))
        while drawn:
            free = [name for name in drawn if not set(drawn[name]) & set(drawn)]
            self.assertTrue(free, "files that draw from one another")
            for name in free:
                del drawn[name]

    def test_top_of_a_module(self):
        for file in FILES:
            for node in file.tree.body:
                self.assertIsInstance(node, (ast.Expr, ast.ImportFrom, ast.FunctionDef, ast.ClassDef, ast.Assign))
                if isinstance(node, ast.Expr):
                    self.assertIs(node, file.tree.body[0])
                    self.assertIsInstance(node.value, ast.Constant)
                if isinstance(node, ast.Assign):
                    # Narrower than the rules: no list, dict or tuple there, so none is changed or handed on.
                    value = node.value.operand if isinstance(node.value, ast.UnaryOp) else node.value
                    self.assertIsInstance(value, ast.Constant, file.at(node))
            names = file.top_names() + file.imported()
            self.assertEqual(len(names), len(set(names)), file.name)

    def test_interface_stands_in_its_file(self):
        for file in FILES:
            for name in ("pk_read", "pk_choose", "pk_keep", "pk_core", "pk_order"):
                self.assertEqual(name in file.top_names(), file.name == "registers.py")
                self.assertNotIn(name, file.imported())


class Statements(unittest.TestCase):
    def test_kinds(self):
        for file in FILES:
            for node in file.nodes:
                self.assertIsInstance(node, NODES, file.at(node))
                self.assertNotIsInstance(node, (ast.Div, ast.MatMult))
            for node in file.every(ast.Constant):
                self.assertNotIsInstance(node.value, (float, complex, bytes))
                if isinstance(node.value, str):
                    self.assertNotIn("%", node.value, file.at(node))
            for node in file.every(ast.Assign):
                self.assertEqual(len(node.targets), 1)
            for node in file.every(ast.For, ast.While):
                self.assertEqual(node.orelse, [])
            for node in file.every(ast.ListComp):
                self.assertEqual(len(node.generators), 1)
                self.assertLessEqual(len(node.generators[0].ifs), 1)
            for node in file.every(ast.BinOp):
                if isinstance(node.op, ast.Pow):
                    self.assertIsInstance(node.right, ast.Constant)
            for node in file.every(ast.Expr):
                self.assertTrue(isinstance(node.value, ast.Call) or node is file.tree.body[0], file.at(node))

    def test_is_stands_beside_none_true_and_false(self):
        for file in FILES:
            for node in file.every(ast.Compare):
                for operator, right in zip(node.ops, node.comparators):
                    if isinstance(operator, (ast.Is, ast.IsNot)):
                        self.assertTrue(isinstance(right, ast.Constant) and right.value in (None, True, False))

    def test_functions(self):
        for file in FILES:
            for node in file.every(ast.FunctionDef):
                self.assertEqual(node.decorator_list, [])
                self.assertIsNone(node.returns)
                self.assertIsNone(node.args.vararg or node.args.kwarg)
                self.assertEqual(node.args.kwonlyargs + node.args.posonlyargs, [])
                for default in node.args.defaults:
                    self.assertIsInstance(default, ast.Constant)
                for arg in node.args.args:
                    self.assertIsNone(arg.annotation)
                if node.name.startswith("__"):
                    self.assertEqual(node.name, "__init__")
                    self.assertEqual([one for one in ast.walk(node) if isinstance(one, ast.Return)], [])

    def test_lambdas_of_one_line_differ(self):
        for file in FILES:
            lines = [(node.lineno, ast.dump(node.args)) for node in file.every(ast.Lambda)]
            self.assertEqual(len(lines), len(set(lines)), file.name)

    def test_errors(self):
        for file in FILES:
            for node in file.every(ast.Try):
                self.assertEqual(node.finalbody, [])
            for node in file.every(ast.ExceptHandler):
                kinds = node.type.elts if isinstance(node.type, ast.Tuple) else [node.type]
                self.assertTrue(kinds)
                for kind in kinds:
                    self.assertIn(kind.id, OWN_ERRORS + ["KeyError", "ZeroDivisionError", "StopIteration"])
            for node in file.every(ast.Raise):
                self.assertIn(called(node.exc), OWN_ERRORS)


class Names(unittest.TestCase):
    def test_plain_and_not_pythons_own(self):
        for file in FILES:
            top = file.top_names() + file.imported()
            classes = [node.name for node in file.every(ast.ClassDef)]
            attributes = [node.attr for node in file.every(ast.Attribute)]
            for name in top + file.local_names():
                self.assertRegex(name, r"^[A-Za-z][A-Za-z0-9_]*$")
                self.assertNotIn(name, dir(builtins), file.name)
                self.assertNotIn(name, NOT_USED, file.name)
            for name in attributes:
                self.assertRegex(name, r"^([A-Za-z][A-Za-z0-9_]*|__init__)$")
                self.assertNotIn(name, NOT_USED[:8] + ["format", "format_map"], file.name)
            for name in file.local_names():
                self.assertNotIn(name, classes + file.imported(), file.name)

    def test_known(self):
        for file in FILES:
            known = file.top_names() + file.imported() + file.local_names() + BUILT_IN
            for node in file.every(ast.Name):
                self.assertIn(node.id, known, file.at(node))

    def test_classes(self):
        for file, node in CLASSES:
            self.assertIn(node, file.tree.body)
            self.assertEqual(node.decorator_list + node.keywords, [])
            self.assertLessEqual(len(node.bases), 1)
            for base in node.bases:
                self.assertIn(base.id, ERRORS + OWN_CLASSES)
            names = []
            for one in node.body:
                self.assertIsInstance(one, (ast.FunctionDef, ast.Pass), file.at(one))
                names.append(getattr(one, "name", "pass"))
            self.assertEqual(len(names), len(set(names)), file.at(node))

    def test_methods_and_values(self):
        self.assertEqual(set(OWN_METHODS) & set(OWN_VALUES), set())
        for name in OWN_METHODS:
            self.assertTrue(name == "__init__" or name not in PYTHONS_OWN or name in METHODS_ALLOWED, name)
        for name in OWN_VALUES:
            self.assertTrue(name not in PYTHONS_OWN | {"args"} or name in VALUES_ALLOWED, name)


class Calls(unittest.TestCase):
    def test_methods_are_known_and_called(self):
        for file in FILES:
            for node in file.every(ast.Attribute):
                parent = file.parent[node]
                if isinstance(parent, ast.Call) and parent.func is node:
                    self.assertIn(node.attr, METHODS + OWN_METHODS, file.at(node))
                    self.assertEqual(parent.keywords, [], file.at(node))
                else:
                    self.assertIn(node.attr, OWN_VALUES, file.at(node))

    def test_pythons_own_are_called(self):
        for file in FILES:
            for node in file.every(ast.Name):
                if node.id in BUILT_IN and node.id not in ERRORS:
                    self.assertEqual(called(file.parent[node]), node.id, file.at(node))

    def test_keywords(self):
        for file in FILES:
            for node in file.every(ast.Call):
                if called(node) in BUILT_IN:
                    for keyword in node.keywords:
                        self.assertIn(keyword.arg, KEYWORDS.get(called(node), ()), file.at(node))
                        if keyword.arg in ("reverse", "strict"):
                            self.assertIsInstance(keyword.value, ast.Constant)

    def test_walked_at_once(self):
        for file in FILES:
            for node in file.every(ast.Call):
                view = isinstance(node.func, ast.Attribute) and node.func.attr in ("items", "keys", "values")
                if called(node) in WALKED or view:
                    parent = file.parent[node]
                    if isinstance(parent, (ast.For, ast.comprehension)):
                        self.assertIs(parent.iter, node)
                    else:
                        self.assertIn(called(parent), WALKERS, file.at(node))
                        if called(parent) != "zip":
                            self.assertIs(parent.args[0], node)

    def test_sets_are_not_kept(self):
        for file in FILES:
            for node in file.every(ast.Call):
                if called(node) in ("set", "frozenset"):
                    parent = file.parent[node]
                    self.assertIn(called(parent), ("sorted", "len"), file.at(node))
                    self.assertEqual(parent.keywords, [])

    def test_what_is_walked_is_not_changed(self):
        for file in FILES:
            for loop in file.every(ast.For):
                walked = loop.iter
                while isinstance(walked, ast.Call) and called(walked) in WALKED and called(walked) != "range":
                    walked = walked.args[0]
                text = ast.unparse(walked)
                for node in [one for part in loop.body for one in ast.walk(part)]:
                    if isinstance(node, ast.Subscript) and isinstance(node.ctx, ast.Store):
                        self.assertNotEqual(ast.unparse(node.value), text, file.at(node))
                    if isinstance(node, ast.Call) and isinstance(node.func, ast.Attribute):
                        if node.func.attr in CHANGES:
                            self.assertNotEqual(ast.unparse(node.func.value), text, file.at(node))


if __name__ == "__main__":
    unittest.main()
