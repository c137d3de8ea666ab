"""The package keeps to the part of Python that it is to be written in, as far as its text shows it."""

import ast
import builtins
import pathlib
import re
import unittest

TOP = pathlib.Path(__file__).resolve().parent.parent
PACKAGE = TOP / "braidbook"

OWN_NAMES = set("""len range enumerate zip min max sum abs sorted reversed int str bool list tuple dict set frozenset
    isinstance ord repr any all divmod Exception ValueError TypeError KeyError IndexError LookupError
    ZeroDivisionError ArithmeticError OverflowError RuntimeError NotImplementedError AttributeError
    StopIteration""".split())

OWN_METHODS = set("""append clear copy count endswith extend find get index insert isalnum isalpha isdigit islower
    isspace isupper items join keys ljust lower lstrip partition pop remove replace reverse rfind rjust rpartition
    rsplit rstrip setdefault split splitlines startswith strip update upper values zfill bit_length""".split())

DUNDER_METHODS = {"__init__", "__eq__", "__repr__", "__str__", "__len__"}

UNUSED_WORDS = set("""type typing typing_extensions enum Enum IntEnum StrEnum Flag IntFlag Generic Protocol ABC ABCMeta
    namedtuple NamedTuple TypedDict TYPE_CHECKING abstractmethod""".split())

UNUSED_NAMES = set("""register mro elements open input version_info with_traceback add_note attrgetter breakpoint
    builtins compile copyright credits delattr dir eval exec exit gc getattr globals hasattr help id importlib license
    locals methodcaller os quit setattr super type vars sys format format_map""".split())

UNUSED_VALUES = set("""items keys values pop update append clear extend insert remove reverse setdefault sort args
    encode format""".split())

WALKED = ("range", "zip", "enumerate", "reversed")
WALKING = ("list", "tuple", "dict", "sorted", "sum", "any", "all", "enumerate", "zip")

NODES = tuple(getattr(ast, name) for name in """Module Import ImportFrom alias FunctionDef ClassDef arguments arg Assign
    AugAssign If While For Return Break Continue Pass Raise Try ExceptHandler Expr Lambda keyword Constant List Tuple
    Dict BinOp UnaryOp BoolOp Compare IfExp Call Attribute Subscript Slice Name ListComp comprehension JoinedStr
    FormattedValue Load Store Add Sub Mult FloorDiv Mod Pow BitAnd BitOr BitXor LShift RShift Invert USub UAdd Not And
    Or Eq NotEq Lt LtE Gt GtE Is IsNot In NotIn""".split())

TOP_NODES = (ast.Expr, ast.ImportFrom, ast.FunctionDef, ast.ClassDef, ast.Assign)

SIGNS = re.compile(r"[ -~\n]*")
NAME = re.compile(r"[A-Za-z][A-Za-z0-9_]*")


def files():
    return sorted(path for path in PACKAGE.rglob("*") if "__pycache__" not in path.parts and path.is_file())


def parsed():
    return [(path, ast.parse(path.read_text(encoding="utf-8"))) for path in files()]


def walked():
    for path, tree in parsed():
        for node in ast.walk(tree):
            yield f"{path.name}:{getattr(node, 'lineno', 0)}", node


def bound_names(node):
    if isinstance(node, ast.Name) and isinstance(node.ctx, ast.Store):
        return [node.id]
    if isinstance(node, ast.arg):
        return [node.arg]
    if isinstance(node, (ast.FunctionDef, ast.ClassDef)):
        return [node.name]
    if isinstance(node, ast.ExceptHandler) and node.name:
        return [node.name]
    return []


class Files(unittest.TestCase):
    def test_only_plain_python_files(self):
        self.assertTrue(files())
        for path in files():
            self.assertRegex(path.name, r"\A(__init__|__main__|[a-z][a-z0-9_]*)\.py\Z")
            self.assertNotIn(path.stem, dir(builtins))
            self.assertFalse(path.stem.startswith("test"))

    def test_size_and_signs(self):
        for path in files():
            text = path.read_text(encoding="utf-8")
            self.assertTrue(SIGNS.fullmatch(text), path)
            lines = text.split("\n")
            self.assertLessEqual(len(lines), 400, path)
            self.assertLessEqual(max(len(line) for line in lines), 120, path)

    def test_words_that_stand_nowhere(self):
        for path in files():
            text = path.read_text(encoding="utf-8")
            self.assertEqual(set(re.findall(r"\w+", text)) & UNUSED_WORDS, set(), path)
            self.assertIsNone(re.search("dataclass|overload|contextmanager", text), path)

    def test_functions_are_short(self):
        for where, node in walked():
            if isinstance(node, ast.FunctionDef):
                self.assertLessEqual(node.end_lineno - node.lineno + 1, 40, where)


class Forms(unittest.TestCase):
    def test_only_the_small_part(self):
        for where, node in walked():
            self.assertIsInstance(node, NODES, where)

    def test_values(self):
        for where, node in walked():
            if isinstance(node, ast.Constant):
                self.assertIsInstance(node.value, (int, str, type(None)), where)
            if isinstance(node, ast.Assign):
                self.assertEqual(len(node.targets), 1, where)
                self.assertNotIsInstance(node.targets[0], (ast.Tuple, ast.List), where)
            if isinstance(node, (ast.For, ast.While, ast.Try)):
                self.assertFalse(isinstance(node, (ast.For, ast.While)) and node.orelse, where)
                self.assertFalse(getattr(node, "finalbody", []), where)
            if isinstance(node, ast.ListComp):
                self.assertEqual(len(node.generators), 1, where)
                self.assertLessEqual(len(node.generators[0].ifs), 1, where)
            if isinstance(node, ast.BinOp) and isinstance(node.op, ast.Pow):
                self.assertIsInstance(node.right, ast.Constant, where)
            if isinstance(node, ast.Compare) and any(isinstance(op, (ast.Is, ast.IsNot)) for op in node.ops):
                self.assertIsInstance(node.comparators[0], ast.Constant, where)

    def test_functions_and_classes_are_plain(self):
        for where, node in walked():
            if isinstance(node, (ast.FunctionDef, ast.ClassDef)):
                self.assertEqual(node.decorator_list, [], where)
            if isinstance(node, ast.FunctionDef):
                given = node.args
                self.assertFalse(given.vararg or given.kwarg or given.kwonlyargs or given.posonlyargs, where)
                self.assertIsNone(node.returns, where)
                self.assertTrue(all(arg.annotation is None for arg in given.args), where)
            if isinstance(node, ast.ClassDef):
                self.assertLessEqual(len(node.bases), 1, where)
                self.assertTrue(all(isinstance(part, (ast.FunctionDef, ast.Expr)) for part in node.body), where)

    def test_top_of_a_file(self):
        for path, tree in parsed():
            names = []
            for node in tree.body:
                self.assertIsInstance(node, TOP_NODES, path)
                if isinstance(node, ast.Expr):
                    self.assertIsInstance(node.value, ast.Constant, path)
                if isinstance(node, ast.ImportFrom):
                    names.extend(alias.name for alias in node.names)
                for part in [node] + (node.targets if isinstance(node, ast.Assign) else []):
                    names.extend(bound_names(part))
            self.assertEqual(len(names), len(set(names)), path)


class Names(unittest.TestCase):
    def test_imports_are_the_package_s_own(self):
        for where, node in walked():
            self.assertNotIsInstance(node, ast.Import, where)
            if isinstance(node, ast.ImportFrom):
                self.assertEqual(node.level, 0, where)
                self.assertTrue(node.module.startswith("braidbook."), where)
                self.assertTrue(all(alias.name != "*" and alias.asname is None for alias in node.names), where)

    def test_imports_come_from_the_file_that_defines_the_name(self):
        defined = {}
        for path, tree in parsed():
            names = set()
            for node in tree.body:
                for part in [node] + (node.targets if isinstance(node, ast.Assign) else []):
                    names.update(bound_names(part))
            defined["braidbook." + path.stem] = names
        for where, node in walked():
            if isinstance(node, ast.ImportFrom):
                self.assertLessEqual({alias.name for alias in node.names}, defined[node.module], where)

    def test_no_two_files_draw_from_one_another(self):
        drawn = {}
        for path, tree in parsed():
            drawn["braidbook." + path.stem] = {node.module for node in tree.body if isinstance(node, ast.ImportFrom)}
        while drawn:
            free = [name for name, modules in drawn.items() if not modules & set(drawn)]
            self.assertTrue(free, drawn)
            for name in free:
                drawn.pop(name)

    def test_plain_names(self):
        for where, node in walked():
            for name in bound_names(node):
                if name not in DUNDER_METHODS:
                    self.assertTrue(NAME.fullmatch(name), f"{where} {name}")
                self.assertNotIn(name, dir(builtins), where)
                self.assertNotIn(name, UNUSED_NAMES, where)

    def test_python_s_own_names(self):
        for where, node in walked():
            if isinstance(node, ast.Name):
                self.assertNotIn(node.id, set(dir(builtins)) - OWN_NAMES, where)
                self.assertNotIn(node.id, UNUSED_NAMES, where)

    def test_methods(self):
        own = set()
        for _, node in walked():
            if isinstance(node, ast.ClassDef):
                own.update(part.name for part in node.body if isinstance(part, ast.FunctionDef))
        for where, node in walked():
            if isinstance(node, ast.Call) and isinstance(node.func, ast.Attribute):
                self.assertIn(node.func.attr, OWN_METHODS | own, where)
            if isinstance(node, ast.Attribute):
                self.assertNotIn(node.attr, UNUSED_NAMES, where)

    def test_values_of_objects(self):
        methods, values = set(), set()
        for where, node in walked():
            if isinstance(node, ast.ClassDef):
                methods.update(part.name for part in node.body if isinstance(part, ast.FunctionDef))
            if isinstance(node, ast.Attribute) and isinstance(node.ctx, ast.Store):
                values.add(node.attr)
                self.assertNotIn(node.attr, UNUSED_VALUES, where)
        self.assertEqual(methods & values, set())

    def test_walked_at_once(self):
        for path, tree in parsed():
            walked_there = set()
            for node in ast.walk(tree):
                if isinstance(node, (ast.For, ast.comprehension)):
                    walked_there.add(node.iter)
                if isinstance(node, ast.Call) and isinstance(node.func, ast.Name) and node.func.id in WALKING:
                    walked_there.update(node.args[:1])
            for node in ast.walk(tree):
                if isinstance(node, ast.Call) and isinstance(node.func, ast.Name) and node.func.id in WALKED:
                    self.assertIn(node, walked_there, f"{path.name}:{node.lineno}")

    def test_what_the_top_of_a_file_holds_is_flat_and_only_read(self):
        for path, tree in parsed():
            for node in tree.body:
                if isinstance(node, ast.Assign) and isinstance(node.value, (ast.List, ast.Dict, ast.Tuple)):
                    inner = [part for part in ast.walk(node.value) if part is not node.value]
                    self.assertFalse([part for part in inner if isinstance(part, (ast.List, ast.Dict))], path)
                    name = node.targets[0].id
                    uses = [part for part in ast.walk(tree) if isinstance(part, ast.Name) and part.id == name]
                    read = [part for part in ast.walk(tree) if isinstance(part, ast.Subscript)
                            and isinstance(part.ctx, ast.Load) and part.value in uses]
                    self.assertEqual(len(uses), 1 + len(read), f"{path.name} {name}")

    def test_no_local_is_called_like_an_import_or_a_class(self):
        for path, tree in parsed():
            taken = set()
            for node in tree.body:
                if isinstance(node, ast.ImportFrom):
                    taken.update(alias.name for alias in node.names)
                if isinstance(node, ast.ClassDef):
                    taken.add(node.name)
            for node in ast.walk(tree):
                if not isinstance(node, ast.ClassDef):
                    self.assertEqual(set(bound_names(node)) & taken, set(), path)


if __name__ == "__main__":
    unittest.main()
