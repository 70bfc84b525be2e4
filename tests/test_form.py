"""The package keeps to the small part of Python it is written in."""

import ast
import builtins
import pathlib
import re
import unittest

FOLDER = pathlib.Path(__file__).resolve().parent.parent / "pulsevoice"
FILES = sorted(FOLDER.glob("*.py"))

OWN_NAMES = set(
    "len range enumerate zip min max sum abs sorted reversed int str bool list tuple dict set frozenset isinstance "
    "ord repr any all divmod".split())
METHODS = set(
    "append clear copy count endswith extend find get index insert isalnum isalpha isdigit islower isspace isupper "
    "items join keys ljust lower lstrip partition pop remove replace reverse rfind rjust rpartition rsplit rstrip "
    "setdefault split splitlines startswith strip update upper values zfill bit_length".split())
UNUSED = set("register mro elements open input version_info with_traceback add_note".split())
UNSAID = re.compile(
    r"\b(type|typing|typing_extensions|enum|Enum|IntEnum|StrEnum|Flag|IntFlag|Generic|Protocol|ABC|ABCMeta|namedtuple"
    r"|NamedTuple|TypedDict|TYPE_CHECKING|abstractmethod)\b|dataclass|overload|contextmanager")
NODES = (
    ast.Module, ast.Expr, ast.ImportFrom, ast.alias, ast.FunctionDef, ast.arguments, ast.arg, ast.ClassDef, ast.Assign,
    ast.AugAssign, ast.If, ast.While, ast.For, ast.Return, ast.Break, ast.Continue, ast.Pass, ast.Constant, ast.List,
    ast.Tuple, ast.Dict, ast.BinOp, ast.UnaryOp, ast.BoolOp, ast.Compare, ast.IfExp, ast.Call, ast.Attribute,
    ast.Subscript, ast.Slice, ast.ListComp, ast.comprehension, ast.Name, ast.expr_context, ast.operator, ast.unaryop,
    ast.boolop, ast.cmpop)
LAZY = ("zip", "enumerate", "reversed", "range")


def trees():
    return [(path, ast.parse(path.read_text())) for path in FILES]


def nodes_of(kind):
    return [(path.name, node) for path, tree in trees() for node in ast.walk(tree) if isinstance(node, kind)]


def called(node):
    return node.func.id if isinstance(node, ast.Call) and isinstance(node.func, ast.Name) else None


def bound_within(function):
    names = [given.arg for given in function.args.args]
    names += [node.id for node in ast.walk(function) if isinstance(node, ast.Name) and isinstance(node.ctx, ast.Store)]
    return set(names)


class Files(unittest.TestCase):
    def test_only_plain_files(self):
        for path in FOLDER.iterdir():
            if path.name != "__pycache__":
                self.assertRegex(path.name, r"^(__init__|[a-z][a-z0-9_]*)\.py$")
                self.assertTrue(path.stem == "__init__" or not hasattr(builtins, path.stem))

    def test_signs_and_sizes(self):
        for path in FILES:
            text = path.read_text()
            self.assertTrue(all(sign == "\n" or " " <= sign <= "~" for sign in text), path)
            lines = text.splitlines()
            self.assertLessEqual(len(lines), 400, path)
            self.assertLessEqual(max(map(len, lines)), 120, path)
            self.assertIsNone(UNSAID.search(text), path)

    def test_functions_are_short(self):
        for name, node in nodes_of(ast.FunctionDef):
            self.assertLessEqual(node.end_lineno - node.lineno + 1, 40, (name, node.name))

    def test_imports(self):
        drawn = {}
        for path, tree in trees():
            drawn[path.stem] = []
            for node in ast.walk(tree):
                if isinstance(node, ast.ImportFrom):
                    self.assertIn(node, tree.body)
                    self.assertEqual(node.level, 0)
                    self.assertRegex(node.module, r"^pulsevoice\.[a-z]+$")
                    self.assertTrue(all(alias.name != "*" and alias.asname is None for alias in node.names))
                    drawn[path.stem].append(node.module.split(".")[1])
        while drawn:
            free = [name for name, needed in drawn.items() if not set(needed) & set(drawn)]
            self.assertTrue(free, f"these draw from one another: {sorted(drawn)}")
            drawn = {name: needed for name, needed in drawn.items() if name not in free}

    def test_names_are_drawn_from_where_they_are_defined_and_used(self):
        defined = {path.stem: {getattr(node, "name", None) or node.targets[0].id for node in tree.body
                               if isinstance(node, (ast.FunctionDef, ast.ClassDef, ast.Assign))}
                   for path, tree in trees()}
        for path, tree in trees():
            used = {node.id for node in ast.walk(tree) if isinstance(node, ast.Name)}
            for node in tree.body:
                if isinstance(node, ast.ImportFrom):
                    for alias in node.names:
                        self.assertIn(alias.name, defined[node.module.split(".")[1]])
                        self.assertIn(alias.name, used, path)


class Statements(unittest.TestCase):
    def test_only_the_allowed_kinds(self):
        for path, tree in trees():
            for node in ast.walk(tree):
                self.assertIsInstance(node, NODES, (path.name, getattr(node, "lineno", 0)))

    def test_tops(self):
        for path, tree in trees():
            names = []
            for node in tree.body:
                self.assertIsInstance(node, (ast.Expr, ast.ImportFrom, ast.FunctionDef, ast.ClassDef, ast.Assign))
                if isinstance(node, ast.Assign):
                    ast.literal_eval(node.value)
                    names.append(node.targets[0].id)
                elif not isinstance(node, (ast.Expr, ast.ImportFrom)):
                    names.append(node.name)
            self.assertEqual(len(names), len(set(names)), path)

    def test_one_target_and_no_else_behind_a_loop(self):
        for place, node in nodes_of(ast.Assign):
            self.assertEqual(len(node.targets), 1, place)
            self.assertIsInstance(node.targets[0], (ast.Name, ast.Attribute, ast.Subscript), (place, node.lineno))
        for place, node in nodes_of((ast.For, ast.While)):
            self.assertEqual(node.orelse, [], place)

    def test_numbers_and_operators(self):
        for place, node in nodes_of(ast.Constant):
            self.assertIsInstance(node.value, (int, str, type(None)), (place, node.lineno))
        for place, node in nodes_of((ast.Div, ast.Pow, ast.MatMult, ast.Is, ast.IsNot)):
            self.fail(place)

    def test_comprehensions(self):
        for place, node in nodes_of(ast.ListComp):
            self.assertEqual(len(node.generators), 1)
            self.assertLessEqual(len(node.generators[0].ifs), 1)
            inner = [one for one in ast.walk(node) if isinstance(one, ast.ListComp)]
            self.assertEqual(len(inner), 1, (place, node.lineno))

    def test_walked_at_once(self):
        for path, tree in trees():
            allowed = []
            for node in ast.walk(tree):
                if isinstance(node, (ast.For, ast.comprehension)):
                    allowed.append(node.iter)
                if called(node) in ("list", "tuple", "dict", "sorted", "sum", "any", "all", "enumerate", "zip"):
                    allowed += node.args[:1]
            for node in ast.walk(tree):
                if called(node) in LAZY:
                    self.assertIn(node, allowed, (path.name, node.lineno))


class Names(unittest.TestCase):
    def test_plain_words(self):
        for place, node in nodes_of((ast.Name, ast.arg, ast.FunctionDef, ast.ClassDef, ast.Attribute)):
            name = getattr(node, "id", None) or getattr(node, "arg", None) or getattr(node, "attr", None) or node.name
            if name != "__init__":
                self.assertRegex(name, r"^[A-Za-z][A-Za-z0-9_]*$", place)
            self.assertNotIn(name, UNUSED, place)

    def test_functions_take_plain_parameters(self):
        for place, node in nodes_of(ast.FunctionDef):
            given = node.args
            self.assertFalse(given.vararg or given.kwarg or given.kwonlyargs or given.posonlyargs, place)
            self.assertEqual((node.decorator_list, node.returns), ([], None), place)
            self.assertTrue(all(one.annotation is None for one in given.args), place)

    def test_own_names_of_python(self):
        for path, tree in trees():
            known = {alias.name for node in tree.body if isinstance(node, ast.ImportFrom) for alias in node.names}
            known |= {node.name for node in tree.body if isinstance(node, (ast.FunctionDef, ast.ClassDef))}
            known |= {node.targets[0].id for node in tree.body if isinstance(node, ast.Assign)}
            for node in ast.walk(tree):
                if isinstance(node, ast.FunctionDef):
                    known |= bound_within(node)
            for node in ast.walk(tree):
                if isinstance(node, ast.Name) and node.id not in known:
                    self.assertIn(node.id, OWN_NAMES, (path.name, node.lineno))

    def test_locals_hide_nothing(self):
        for path, tree in trees():
            drawn = {alias.name for node in tree.body if isinstance(node, ast.ImportFrom) for alias in node.names}
            tops = {node.name for node in tree.body if isinstance(node, (ast.FunctionDef, ast.ClassDef))}
            for node in ast.walk(tree):
                if isinstance(node, ast.FunctionDef):
                    self.assertFalse(bound_within(node) & (drawn | tops | set(dir(builtins))), (path.name, node.name))

    def test_methods_and_values(self):
        methods = {one.name for place, node in nodes_of(ast.ClassDef) for one in node.body
                   if isinstance(one, ast.FunctionDef)} - {"__init__"}
        values = {node.attr for place, node in nodes_of(ast.Attribute) if isinstance(node.ctx, ast.Store)}
        self.assertFalse(methods & values)
        taken = set()
        for sample in ("", 0, [], {}, set(), b"", ()):
            taken |= set(dir(sample))
        self.assertFalse((methods | values) & taken)
        for place, node in nodes_of(ast.Attribute):
            self.assertIn(node.attr, methods | values | METHODS, (place, node.lineno))

    def test_classes(self):
        for place, node in nodes_of(ast.ClassDef):
            self.assertEqual((node.bases, node.keywords, node.decorator_list), ([], [], []), place)
            for one in node.body:
                self.assertIsInstance(one, (ast.Expr, ast.FunctionDef), place)

    def test_no_keywords(self):
        for place, node in nodes_of(ast.Call):
            self.assertEqual(node.keywords, [], (place, node.lineno))


if __name__ == "__main__":
    unittest.main()
