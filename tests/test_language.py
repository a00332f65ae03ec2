"""The package keeps to its small part of Python, as far as that shows in the form of its files."""

import ast
import builtins
import pathlib
import re
import unittest

FOLDER = pathlib.Path(__file__).resolve().parent.parent / "networktime"
STATEMENTS = (ast.Assign, ast.AugAssign, ast.If, ast.While, ast.For, ast.Return, ast.Break, ast.Continue, ast.Pass,
              ast.Raise, ast.Try, ast.Expr, ast.FunctionDef, ast.ClassDef, ast.ImportFrom)
BANNED = (ast.Div, ast.MatMult, ast.SetComp, ast.DictComp, ast.GeneratorExp, ast.NamedExpr, ast.Starred, ast.Yield,
          ast.YieldFrom, ast.Await, ast.Set, ast.AnnAssign)
OWN_NAMES = set("""len range enumerate zip min max sum abs sorted reversed int str bool list tuple dict isinstance ord repr
    any all divmod ValueError KeyError IndexError ZeroDivisionError True False None""".split())
METHODS = set("""append clear copy count endswith extend find get index insert items join keys pop remove replace reverse
    setdefault split startswith strip update values bit_length""".split())
WORDS = re.compile(r"""\b(type|typing|typing_extensions|enum|Enum|IntEnum|StrEnum|Flag|IntFlag|Generic|Protocol|ABC|ABCMeta|
    namedtuple|NamedTuple|TypedDict|TYPE_CHECKING|abstractmethod)\b|dataclass|overload|contextmanager""", re.X)
NEVER = ("register", "mro", "elements", "open", "input", "version_info", "format", "format_map", "args", "encode")
VALUES = (str, int, list, dict, set, bytes, tuple)
VALUE_NAMES = {"count", "index", "title", "find", "get", "join", "lower", "upper", "split", "strip", "copy", "add"}


def files():
    return sorted(FOLDER.glob("*.py"))


def trees():
    return [(path.name, ast.parse(path.read_text())) for path in files()]


def nodes():
    return [(name, node) for name, tree in trees() for node in ast.walk(tree)]


def bound_names(tree):
    """Parameters and locals."""
    names = [node.arg for node in ast.walk(tree) if isinstance(node, ast.arg)]
    for top in tree.body:
        if not isinstance(top, ast.Assign):
            names += [node.id for node in ast.walk(top) if isinstance(node, ast.Name) and isinstance(node.ctx, ast.Store)]
    return names


def top_names(tree):
    names = []
    for top in tree.body:
        if isinstance(top, ast.Assign):
            names += [target.id for target in top.targets]
        elif isinstance(top, ast.ImportFrom):
            names += [alias.asname or alias.name for alias in top.names]
        elif isinstance(top, (ast.FunctionDef, ast.ClassDef)):
            names.append(top.name)
    return names


def methods_and_values():
    methods, values = set(), set()
    for name, node in nodes():
        if isinstance(node, ast.ClassDef):
            methods |= {part.name for part in node.body if isinstance(part, ast.FunctionDef)}
        if isinstance(node, ast.Attribute) and isinstance(node.ctx, ast.Store):
            values.add(node.attr)
    return methods - {"__init__"}, values


class Form(unittest.TestCase):
    def test_files(self):
        for path in FOLDER.iterdir():
            if path.name != "__pycache__":
                self.assertRegex(path.name, r"^[a-z0-9_]+\.py$")
        for path in files():
            text = path.read_text()
            self.assertIsNone(re.search(r"[^ -~\n]", text), path.name)
            self.assertIsNone(WORDS.search(text), path.name)
            lines = text.splitlines()
            self.assertLessEqual(len(lines), 400, path.name)
            self.assertLessEqual(max(map(len, lines)), 120, path.name)

    def test_sizes_and_heads_of_functions(self):
        for name, node in nodes():
            if isinstance(node, ast.FunctionDef):
                self.assertLessEqual(node.end_lineno - node.lineno + 1, 40, node.name)
                self.assertEqual(node.decorator_list, [])
                head = node.args
                self.assertFalse(head.vararg or head.kwarg or head.kwonlyargs or head.posonlyargs, node.name)

    def test_statements_and_expressions(self):
        for name, node in nodes():
            place = (name, getattr(node, "lineno", 0))
            self.assertNotIsInstance(node, BANNED, place)
            if isinstance(node, ast.stmt):
                self.assertIsInstance(node, STATEMENTS, place)
            if isinstance(node, ast.Assign):
                self.assertEqual(len(node.targets), 1, place)
                self.assertNotIsInstance(node.targets[0], (ast.Tuple, ast.List), place)
            if isinstance(node, (ast.For, ast.While)):
                self.assertEqual(node.orelse, [], place)
            if isinstance(node, ast.ListComp):
                self.assertEqual(len(node.generators), 1, place)
                self.assertLessEqual(len(node.generators[0].ifs), 1, place)
            if isinstance(node, ast.Constant):
                self.assertNotIsInstance(node.value, (float, bytes, complex), place)
            if isinstance(node, ast.BinOp) and isinstance(node.op, ast.Pow):
                self.assertIsInstance(node.right, ast.Constant, place)
            if isinstance(node, ast.Compare) and any(isinstance(op, (ast.Is, ast.IsNot)) for op in node.ops):
                self.assertIn(ast.unparse(node.comparators[0]), ("None", "True", "False"), place)

    def test_imports(self):
        drawn = {}
        for name, tree in trees():
            drawn[name] = set()
            for node in ast.walk(tree):
                if isinstance(node, ast.ImportFrom):
                    self.assertIn(node, tree.body)
                    self.assertEqual(node.level, 0)
                    package, file = node.module.split(".")
                    self.assertEqual(package, "networktime")
                    drawn[name].add(file + ".py")
                    defined = [part for part in ast.parse((FOLDER / (file + ".py")).read_text()).body
                               if not isinstance(part, ast.ImportFrom)]
                    for alias in node.names:
                        self.assertIn(alias.name, top_names(ast.Module(defined, [])), (name, alias.name))
        while drawn:
            free = [name for name in drawn if not drawn[name] & set(drawn)]
            self.assertTrue(free, drawn)
            drawn = {name: drawn[name] for name in drawn if name not in free}


class Names(unittest.TestCase):
    def test_bound_once_and_plain(self):
        for name, tree in trees():
            tops = top_names(tree)
            self.assertEqual(len(tops), len(set(tops)), name)
            taken = {alias.name for top in tree.body if isinstance(top, ast.ImportFrom) for alias in top.names}
            taken |= {top.name for top in tree.body if isinstance(top, ast.ClassDef)} | set(dir(builtins))
            for bound in bound_names(tree):
                self.assertNotIn(bound, taken, name)
            for bound in bound_names(tree) + tops:
                self.assertRegex(bound, r"^[A-Za-z][A-Za-z0-9_]*$")
                self.assertNotIn(bound, NEVER)

    def test_what_is_imported_is_used(self):
        for name, tree in trees():
            used = {node.id for node in ast.walk(tree) if isinstance(node, ast.Name)}
            for top in tree.body:
                if isinstance(top, ast.ImportFrom):
                    self.assertLessEqual({alias.name for alias in top.names}, used, name)

    def test_names_of_python(self):
        for name, tree in trees():
            known = set(bound_names(tree)) | set(top_names(tree)) | OWN_NAMES
            for node in ast.walk(tree):
                if isinstance(node, ast.Name):
                    self.assertIn(node.id, known, name)

    def test_methods_and_values(self):
        methods, values = methods_and_values()
        self.assertEqual(methods & values, set())
        taken = {name for kind in VALUES for name in dir(kind)}
        self.assertEqual((values - VALUE_NAMES) & taken, set())
        self.assertEqual((methods - METHODS - {"add", "discard"}) & taken, set())
        for name, node in nodes():
            if isinstance(node, ast.Attribute):
                self.assertIn(node.attr, methods | values | METHODS, name)
                self.assertNotIn(node.attr, NEVER, name)


if __name__ == "__main__":
    unittest.main()
