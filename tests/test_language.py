"""The package's own files keep to the small part of Python that it is written in.

Not every rule can be seen from here; these are the ones that are easily broken unseen.
"""

import ast
import builtins
import pathlib
import re
import unittest

PACKAGE = pathlib.Path(__file__).resolve().parent.parent / "outweave"
OWN_NAMES = set("""
    len range enumerate zip min max sum abs sorted reversed int str bool list tuple dict set frozenset
    isinstance ord repr any all divmod Exception ValueError TypeError KeyError IndexError LookupError
    ZeroDivisionError ArithmeticError OverflowError RuntimeError NotImplementedError AttributeError
    StopIteration""".split())
PYTHONS_METHODS = set("""
    append clear copy count endswith extend find get index insert isalnum isalpha isdigit islower isspace
    isupper items join keys ljust lower lstrip partition pop remove replace reverse rfind rjust rpartition
    rsplit rstrip setdefault split splitlines startswith strip update upper values zfill bit_length""".split())
TWO_UNDERSCORES = {"__init__", "__eq__", "__repr__", "__str__", "__len__"}
UNUSED_NAMES = set("""
    register mro elements open input version_info with_traceback add_note format format_map""".split())
NOT_AS_NAMES = set("""
    attrgetter breakpoint builtins compile copyright credits delattr dir eval exec exit gc getattr globals hasattr
    help id importlib license locals methodcaller os quit setattr super type vars sys chr""".split())
FREE_AS_VALUES = set("count index title find get join lower upper split strip copy add".split())
WALKERS = set("zip enumerate reversed range".split())
WALKED_BY = set("list tuple dict sorted sum any all enumerate zip min max".split())
CHECKED_KINDS = set("int str bool list tuple dict".split())
UNUSED_WORDS = re.compile(
    r"\b(type|typing|typing_extensions|enum|Enum|IntEnum|StrEnum|Flag|IntFlag|Generic|Protocol|ABC|ABCMeta"
    r"|namedtuple|NamedTuple|TypedDict|TYPE_CHECKING|abstractmethod)\b|dataclass|overload|contextmanager")
STATEMENTS = (
    ast.Assign, ast.AugAssign, ast.If, ast.While, ast.For, ast.Return, ast.Break, ast.Continue, ast.Pass,
    ast.Raise, ast.Try, ast.Expr, ast.FunctionDef, ast.ClassDef, ast.ImportFrom)
UNUSED_NODES = (
    ast.Div, ast.MatMult, ast.SetComp, ast.DictComp, ast.GeneratorExp, ast.NamedExpr, ast.Starred,
    ast.Yield, ast.YieldFrom, ast.Await, ast.AnnAssign)


def package_files():
    return sorted(path for path in PACKAGE.rglob("*") if path.is_file() and "__pycache__" not in path.parts)


def read():
    return [(path.name, ast.parse(path.read_text(encoding="utf-8"))) for path in package_files()]


def nodes_of(*kinds):
    return [(f"{name}:{node.lineno}", node) for name, tree in read() for node in ast.walk(tree)
            if isinstance(node, kinds)]


def is_docstring(tree, node):
    return node is tree.body[0] and isinstance(node, ast.Expr) and isinstance(node.value, ast.Constant)


class Files(unittest.TestCase):
    def test_names(self):
        self.assertIn("__init__.py", [path.name for path in package_files()])
        for path in package_files():
            self.assertRegex(path.name, r"^([a-z][a-z0-9_]*|__init__|__main__)\.py$")
            self.assertNotIn(path.stem, dir(builtins))

    def test_signs_and_sizes(self):
        for path in package_files():
            text = path.read_bytes().decode("ascii")
            rows = text.split("\n")
            self.assertLessEqual(len(rows), 400, path.name)
            for number, row in enumerate(rows, 1):
                self.assertRegex(row, r"\A[ -~]{0,120}\Z", f"{path.name}:{number}")
                self.assertIsNone(UNUSED_WORDS.search(row), f"{path.name}:{number}")

    def test_functions_are_short(self):
        for where, node in nodes_of(ast.FunctionDef):
            self.assertLessEqual(node.end_lineno - node.lineno + 1, 40, where)


class Forms(unittest.TestCase):
    def test_statements(self):
        for name, tree in read():
            for node in ast.walk(tree):
                where = f"{name}:{getattr(node, 'lineno', 0)}"
                self.assertNotIsInstance(node, UNUSED_NODES, where)
                if isinstance(node, ast.stmt):
                    self.assertIsInstance(node, STATEMENTS, where)
                if isinstance(node, ast.Expr) and not is_docstring(tree, node):
                    self.assertIsInstance(node.value, ast.Call, where)
                if isinstance(node, (ast.For, ast.While)):
                    self.assertEqual(node.orelse, [], where)
                if isinstance(node, ast.Assign):
                    self.assertEqual(len(node.targets), 1, where)
                if isinstance(node, ast.Try):
                    self.assertEqual(node.finalbody, [], where)
                if isinstance(node, ast.ListComp):
                    self.assertEqual(len(node.generators), 1, where)
                    self.assertLessEqual(len(node.generators[0].ifs), 1, where)

    def test_the_top_of_a_module(self):
        for name, tree in read():
            self.assertTrue(is_docstring(tree, tree.body[0]), name)
            bound = []
            for node in tree.body[1:]:
                self.assertIsInstance(
                    node, (ast.ImportFrom, ast.FunctionDef, ast.ClassDef, ast.Assign), f"{name}:{node.lineno}")
                if isinstance(node, ast.Assign):
                    bound.append(node.targets[0].id)
                elif not isinstance(node, ast.ImportFrom):
                    bound.append(node.name)
            self.assertEqual(len(bound), len(set(bound)), name)

    def test_imports(self):
        for where, node in nodes_of(ast.ImportFrom):
            self.assertEqual(node.level, 0, where)
            self.assertRegex(node.module, r"^outweave\.[a-z]+$", where)
            source = ast.parse((PACKAGE / (node.module.split(".")[1] + ".py")).read_text())
            defined = [part.targets[0].id if isinstance(part, ast.Assign) else part.name
                       for part in source.body if isinstance(part, (ast.Assign, ast.FunctionDef, ast.ClassDef))]
            for alias in node.names:
                self.assertIsNone(alias.asname, where)
                self.assertIn(alias.name, defined, where)

    def test_functions(self):
        for where, node in nodes_of(ast.FunctionDef):
            rest = (node.args.vararg, node.args.kwarg, node.args.kwonlyargs, node.args.posonlyargs)
            self.assertEqual(rest, (None, None, [], []), where)
            self.assertEqual(node.decorator_list, [], where)

    def test_classes(self):
        for where, node in nodes_of(ast.ClassDef):
            self.assertEqual((node.decorator_list, node.keywords), ([], []), where)
            self.assertLessEqual(len(node.bases), 1, where)
            for part in node.body:
                self.assertIsInstance(part, (ast.FunctionDef, ast.Pass), where)

    def test_values(self):
        for where, node in nodes_of(ast.Constant):
            self.assertIn(type(node.value), (int, str, bool, type(None)), where)
            if isinstance(node.value, str):
                self.assertNotIn("%", node.value, where)
        for where, node in nodes_of(ast.Compare):
            for operation, right in zip(node.ops, node.comparators):
                if isinstance(operation, (ast.Is, ast.IsNot)):
                    self.assertIsInstance(right, ast.Constant, where)


class Names(unittest.TestCase):
    def test_pythons_own(self):
        for where, node in nodes_of(ast.Name):
            if node.id in dir(builtins):
                self.assertIn(node.id, OWN_NAMES, where)
                self.assertIsInstance(node.ctx, ast.Load, where)

    def test_plain(self):
        for where, node in nodes_of(ast.Name, ast.arg, ast.Attribute, ast.FunctionDef, ast.ClassDef):
            name = {ast.Name: "id", ast.arg: "arg", ast.Attribute: "attr"}.get(type(node), "name")
            name = getattr(node, name)
            self.assertNotIn(name, UNUSED_NAMES, where)
            if name not in TWO_UNDERSCORES:
                self.assertRegex(name, r"^[A-Za-z][A-Za-z0-9_]*$", where)
            if isinstance(node, ast.arg):
                self.assertNotIn(name, dir(builtins), where)

    def test_no_local_hides_a_class_or_an_import(self):
        for name, tree in read():
            taken = [node.name for node in tree.body if isinstance(node, ast.ClassDef)]
            for node in tree.body:
                if isinstance(node, ast.ImportFrom):
                    taken += [alias.name for alias in node.names]
            for node in ast.walk(tree):
                if isinstance(node, ast.arg):
                    self.assertNotIn(node.arg, taken, f"{name}:{node.lineno}")
                if isinstance(node, ast.Name) and isinstance(node.ctx, ast.Store):
                    self.assertNotIn(node.id, taken, f"{name}:{node.lineno}")

    def test_methods_and_values(self):
        methods = {part.name for where, node in nodes_of(ast.ClassDef) for part in node.body
                   if isinstance(part, ast.FunctionDef)}
        values = {node.attr for where, node in nodes_of(ast.Attribute) if isinstance(node.ctx, ast.Store)}
        self.assertEqual(methods & values, set())
        pythons = {name for kind in (str, int, list, dict, set, bytes) for name in dir(kind)}
        self.assertEqual((methods - TWO_UNDERSCORES) & pythons - PYTHONS_METHODS - {"add", "discard"}, set())
        self.assertEqual(values & pythons - FREE_AS_VALUES, set())
        self.assertEqual(values & {"args"}, set())
        for where, node in nodes_of(ast.Attribute):
            self.assertIn(node.attr, methods | values | PYTHONS_METHODS | TWO_UNDERSCORES, where)

    def test_not_used(self):
        for where, node in nodes_of(ast.Name):
            self.assertNotIn(node.id, NOT_AS_NAMES, where)


def parents():
    """Each node with the one around it."""
    for name, tree in read():
        for parent in ast.walk(tree):
            for child in ast.iter_child_nodes(parent):
                yield f"{name}:{getattr(child, 'lineno', 0)}", parent, child


def called(node):
    return node.func.id if isinstance(node, ast.Call) and isinstance(node.func, ast.Name) else ""


class Narrower(unittest.TestCase):
    def test_no_two_files_draw_from_one_another(self):
        drawn = {name[:-3]: {node.module.split(".")[1] for node in ast.walk(tree) if isinstance(node, ast.ImportFrom)}
                 for name, tree in read()}
        while drawn:
            free = [name for name in drawn if not drawn[name] & set(drawn)]
            self.assertNotEqual(free, [], drawn)
            drawn = {name: drawn[name] for name in drawn if name not in free}

    def test_each_import_is_used(self):
        for name, tree in read():
            used = {node.id for node in ast.walk(tree) if isinstance(node, ast.Name)}
            for node in ast.walk(tree):
                if isinstance(node, ast.ImportFrom):
                    self.assertEqual({alias.name for alias in node.names} - used, set(), name)

    def test_walked_at_once(self):
        for where, parent, node in parents():
            method = node.func.attr if isinstance(node, ast.Call) and isinstance(node.func, ast.Attribute) else ""
            if called(node) in WALKERS or method in ("items", "keys", "values"):
                in_loop = isinstance(parent, (ast.For, ast.comprehension)) and parent.iter is node
                in_call = called(parent) in WALKED_BY and parent.args[0] is node
                self.assertTrue(in_loop or in_call, where)

    def test_sets(self):
        for where, parent, node in parents():
            self.assertNotIsInstance(node, ast.Set, where)
            if called(node) == "set":
                self.assertIn(called(parent), ("sorted", "len"), where)

    def test_handlers(self):
        own = {node.name for where, node in nodes_of(ast.ClassDef)}
        for where, node in nodes_of(ast.ExceptHandler):
            self.assertIsInstance(node.type, ast.Name, where)
            self.assertIn(node.type.id, own | {"KeyError", "ZeroDivisionError", "StopIteration"}, where)
        for where, node in nodes_of(ast.Raise):
            self.assertIn(called(node.exc), own, where)

    def test_kinds_asked_for(self):
        own = {node.name for where, node in nodes_of(ast.ClassDef)}
        for where, node in nodes_of(ast.Call):
            if called(node) == "isinstance":
                kinds = node.args[1].elts if isinstance(node.args[1], ast.Tuple) else [node.args[1]]
                self.assertLessEqual({kind.id for kind in kinds}, CHECKED_KINDS | own, where)

    def test_powers(self):
        for where, node in nodes_of(ast.BinOp):
            if isinstance(node.op, ast.Pow):
                self.assertIsInstance(node.right, ast.Constant, where)
                self.assertLessEqual(node.right.value, 64, where)

    def test_tops_are_only_read(self):
        for name, tree in read():
            tops = [node for node in tree.body if isinstance(node, ast.Assign)
                    and isinstance(node.value, (ast.List, ast.Dict))]
            for top in tops:
                for node in list(ast.walk(top.value))[1:]:
                    self.assertNotIsInstance(node, (ast.List, ast.Dict), name)
            kept = {top.targets[0].id for top in tops}
            for where, parent, node in parents():
                if where.startswith(name + ":") and isinstance(node, ast.Name) and node.id in kept:
                    if isinstance(node.ctx, ast.Load):
                        self.assertIsInstance(parent, (ast.Attribute, ast.Subscript, ast.Compare), where)
                        self.assertIn(getattr(parent, "attr", "get"), ("get",), where)
                        self.assertNotIsInstance(getattr(parent, "ctx", None), ast.Store, where)

    def test_no_annotations(self):
        for where, node in nodes_of(ast.FunctionDef):
            self.assertIsNone(node.returns, where)
            self.assertEqual([argument.annotation for argument in node.args.args if argument.annotation], [], where)


if __name__ == "__main__":
    unittest.main()
