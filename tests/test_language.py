"""The package keeps to the small part of Python that it is written in."""

import ast
import pathlib
import re
import unittest

PACKAGE = pathlib.Path(__file__).resolve().parent.parent / "fardisk"

BUILTINS = set("""len range enumerate zip min max sum abs sorted reversed int str bool list tuple dict set frozenset
    isinstance ord repr any all divmod Exception ValueError TypeError KeyError IndexError LookupError
    ZeroDivisionError ArithmeticError OverflowError RuntimeError NotImplementedError AttributeError
    StopIteration""".split())
METHODS = set("""append clear copy count endswith extend find get index insert isalnum isalpha isdigit islower isspace
    isupper items join keys ljust lower lstrip partition pop remove replace reverse rfind rjust rpartition rsplit
    rstrip setdefault split splitlines startswith strip update upper values zfill bit_length""".split())
WORDS = """type typing typing_extensions enum Enum IntEnum StrEnum Flag IntFlag Generic Protocol ABC ABCMeta namedtuple
    NamedTuple TypedDict TYPE_CHECKING abstractmethod""".split()
NEVER = set("""register mro elements open input version_info with_traceback add_note format format_map chr compile dir
    eval exec exit gc getattr globals hasattr help id importlib license locals os quit setattr super vars sys
    delattr breakpoint builtins copyright credits print next hash map filter bytes""".split())
SPECIAL = {"__init__", "__eq__", "__repr__", "__str__", "__len__"}
NODES = (
    ast.Module, ast.ImportFrom, ast.alias, ast.FunctionDef, ast.ClassDef, ast.arguments, ast.arg, ast.Assign,
    ast.If, ast.While, ast.For, ast.Return, ast.Break, ast.Continue, ast.Pass, ast.Raise, ast.Try, ast.ExceptHandler,
    ast.Expr, ast.Name, ast.Constant, ast.List, ast.Tuple, ast.Dict, ast.BinOp, ast.UnaryOp, ast.BoolOp, ast.Compare,
    ast.IfExp, ast.Call, ast.Attribute, ast.Subscript, ast.Slice, ast.ListComp, ast.comprehension, ast.JoinedStr,
    ast.FormattedValue, ast.Load, ast.Store, ast.operator, ast.unaryop, ast.boolop, ast.cmpop,
)
OWN_VALUES = (str, int, list, dict, set, bytes)
PYTHONS_OWN = {name for kind in OWN_VALUES for name in dir(kind)}
PLAIN = (ast.Constant, ast.List, ast.Tuple, ast.Dict, ast.UnaryOp, ast.USub, ast.Load)


def files():
    return sorted(PACKAGE.glob("*.py"))


def trees():
    return [(path.name, ast.parse(path.read_text())) for path in files()]


def walk_all():
    for name, tree in trees():
        for node in ast.walk(tree):
            yield f"{name}:{getattr(node, 'lineno', 0)}", node


class Text(unittest.TestCase):
    def test_only_such_files(self):
        names = [path.name for path in PACKAGE.iterdir() if path.name != "__pycache__"]
        self.assertIn("__init__.py", names)
        for name in names:
            self.assertRegex(name, r"^[a-z_][a-z0-9_]*\.py$")

    def test_sizes_and_signs(self):
        for path in files():
            lines = path.read_text().split("\n")
            self.assertLessEqual(len(lines), 401, path)
            for line in lines:
                self.assertLessEqual(len(line), 120, path)
                self.assertRegex(line, r"^[ -~]*$", path)

    def test_words_that_stand_nowhere(self):
        for path in files():
            text = path.read_text()
            for word in WORDS:
                self.assertIsNone(re.search(r"\b" + word + r"\b", text), (path, word))
            self.assertNotRegex(text, "dataclass|overload|contextmanager")


class Nodes(unittest.TestCase):
    def test_only_such_nodes(self):
        for place, node in walk_all():
            self.assertIsInstance(node, NODES, place)
            self.assertNotIsInstance(node, (ast.Div, ast.MatMult, ast.Starred), place)

    def test_details(self):
        for place, node in walk_all():
            if isinstance(node, ast.Constant):
                self.assertIn(type(node.value), (int, str, bool, type(None)), place)
                self.assertNotIn("%", str(node.value), place)
            if isinstance(node, ast.Assign):
                self.assertEqual(len(node.targets), 1, place)
                self.assertIsInstance(node.targets[0], (ast.Name, ast.Attribute, ast.Subscript), place)
            if isinstance(node, ast.ListComp):
                self.assertEqual(len(node.generators), 1, place)
                self.assertLessEqual(len(node.generators[0].ifs), 1, place)
            if isinstance(node, (ast.For, ast.While)):
                self.assertEqual(node.orelse, [], place)
            if isinstance(node, ast.Try):
                self.assertEqual(node.finalbody, [], place)
            if isinstance(node, ast.FormattedValue):
                self.assertIsInstance(node.value, ast.Name, place)
            if isinstance(node, ast.Compare):
                for operator, right in zip(node.ops, node.comparators):
                    if isinstance(operator, (ast.Is, ast.IsNot)):
                        self.assertIn(getattr(right, "value", 0), (None, True, False), place)

    def test_a_call_by_itself_or_a_docstring_of_the_file(self):
        for name, tree in trees():
            self.assertIsInstance(tree.body[0].value, ast.Constant, name)
            for node in ast.walk(tree):
                if isinstance(node, ast.Expr) and node is not tree.body[0]:
                    self.assertIsInstance(node.value, ast.Call, (name, node.lineno))

    def test_functions(self):
        for place, node in walk_all():
            if isinstance(node, ast.FunctionDef):
                self.assertLessEqual(node.end_lineno - node.lineno + 1, 40, place)
                self.assertEqual(node.decorator_list, [], place)
                self.assertIsNone(node.returns, place)
                arguments = node.args
                self.assertFalse(arguments.vararg or arguments.kwarg or arguments.kwonlyargs, place)
                self.assertFalse(arguments.posonlyargs, place)
                self.assertTrue(all(each.annotation is None for each in arguments.args), place)

    def test_classes_hold_methods_alone(self):
        for place, node in walk_all():
            if isinstance(node, ast.ClassDef):
                self.assertEqual(node.decorator_list + node.keywords, [], place)
                self.assertLessEqual(len(node.bases), 1, place)
                for each in node.body:
                    self.assertIsInstance(each, (ast.FunctionDef, ast.Pass), place)

    def test_the_top_of_a_file(self):
        for name, tree in trees():
            bound = []
            for node in tree.body[1:]:
                if isinstance(node, ast.Assign):
                    bound.append(node.targets[0].id)
                    for each in ast.walk(node.value):
                        self.assertIsInstance(each, PLAIN, (name, node.lineno))
                elif isinstance(node, ast.ImportFrom):
                    bound += [each.name for each in node.names]
                else:
                    self.assertIsInstance(node, (ast.FunctionDef, ast.ClassDef), (name, node.lineno))
                    bound.append(node.name)
            self.assertEqual(len(bound), len(set(bound)), name)


class Imports(unittest.TestCase):
    def test_from_the_file_that_defines_the_name(self):
        defined = {}
        for name, tree in trees():
            defined["fardisk." + name[:-3]] = {
                node.targets[0].id if isinstance(node, ast.Assign) else node.name
                for node in tree.body if isinstance(node, (ast.Assign, ast.FunctionDef, ast.ClassDef))}
        for place, node in walk_all():
            if isinstance(node, ast.ImportFrom):
                self.assertEqual(node.level, 0, place)
                for each in node.names:
                    self.assertIn(each.name, defined[node.module], place)
                    self.assertIsNone(each.asname, place)

    def test_every_import_is_used(self):
        for name, tree in trees():
            used = {node.id for node in ast.walk(tree) if isinstance(node, ast.Name)}
            for node in tree.body:
                if isinstance(node, ast.ImportFrom):
                    for each in node.names:
                        self.assertIn(each.name, used, name)

    def test_no_two_draw_from_one_another(self):
        drawn = {name[:-3]: {node.module[8:] for node in tree.body if isinstance(node, ast.ImportFrom)}
                 for name, tree in trees()}
        while drawn:
            free = [name for name, others in drawn.items() if not others & set(drawn)]
            self.assertTrue(free, drawn)
            drawn = {name: others for name, others in drawn.items() if name not in free}


class Names(unittest.TestCase):
    def test_names(self):
        for name, tree in trees():
            known = set(BUILTINS)
            taken = set()
            for node in ast.walk(tree):
                if isinstance(node, (ast.FunctionDef, ast.ClassDef)):
                    known.add(node.name)
                if isinstance(node, ast.ClassDef):
                    taken.add(node.name)
                if isinstance(node, ast.ImportFrom):
                    known |= {each.name for each in node.names}
                    taken |= {each.name for each in node.names}
                if isinstance(node, ast.Name) and isinstance(node.ctx, ast.Store):
                    known.add(node.id)
                if isinstance(node, ast.arg):
                    known.add(node.arg)
            for node in ast.walk(tree):
                place = (name, getattr(node, "lineno", 0))
                if isinstance(node, ast.Name):
                    self.assertIn(node.id, known, place)
                    self.assertNotIn(node.id, NEVER, place)
                if isinstance(node, ast.Name) and isinstance(node.ctx, ast.Store):
                    self.assertNotIn(node.id, taken | BUILTINS, place)
                    self.assertFalse(node.id.startswith("_"), place)
                if isinstance(node, ast.arg):
                    self.assertNotIn(node.arg, taken | BUILTINS | NEVER, place)
                if isinstance(node, ast.FunctionDef) and node.name.startswith("_"):
                    self.assertIn(node.name, SPECIAL, place)

    def test_methods_and_values(self):
        methods = set()
        values = set()
        for place, node in walk_all():
            if isinstance(node, ast.ClassDef):
                methods |= {each.name for each in node.body if isinstance(each, ast.FunctionDef)}
            if isinstance(node, ast.Attribute) and isinstance(node.ctx, ast.Store):
                values.add(node.attr)
        self.assertEqual(methods & values, set())
        self.assertEqual((methods - SPECIAL) & PYTHONS_OWN, set())
        self.assertEqual((values - {"count"}) & PYTHONS_OWN, set())
        self.assertEqual((methods | values) & NEVER, set())
        for place, node in walk_all():
            if isinstance(node, ast.Attribute):
                self.assertIn(node.attr, methods | values | METHODS, place)


if __name__ == "__main__":
    unittest.main()
