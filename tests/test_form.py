"""The form of the package's files: the rules of the language that can be seen by reading alone."""

import ast
import builtins
import pathlib
import re
import unittest

PACKAGE = pathlib.Path(__file__).resolve().parent.parent / "neverstuck"

NODES = set("""
Module Expr Constant FunctionDef arguments arg Return Assign AugAssign For While If Break Continue Pass Raise Try
ExceptHandler Assert Delete Import ImportFrom alias ClassDef Name Load Store Del Attribute Subscript Slice Tuple List
Dict Set ListComp DictComp SetComp comprehension BoolOp And Or UnaryOp Not USub Invert BinOp Add Sub Mult FloorDiv Mod
Pow LShift RShift BitAnd BitOr BitXor Compare Eq NotEq Lt LtE Gt GtE Is IsNot In NotIn IfExp Call keyword Lambda
JoinedStr FormattedValue Starred
""".split())

OWN_NAMES = set("""
len range enumerate zip min max sum abs sorted reversed int str bool bytes list tuple dict set frozenset isinstance ord
repr any all divmod Exception ValueError TypeError KeyError IndexError LookupError ZeroDivisionError ArithmeticError
OverflowError RuntimeError NotImplementedError AttributeError StopIteration
""".split())

METHODS = set("""
append clear copy count endswith extend find get index insert isalnum isalpha isdigit islower isspace isupper items join
keys ljust lower lstrip partition pop remove replace reverse rfind rjust rpartition rsplit rstrip setdefault split
splitlines startswith strip update upper values zfill bit_length title capitalize swapcase casefold center expandtabs
removeprefix removesuffix rindex isascii isdecimal isnumeric istitle isidentifier isprintable encode decode hex fromhex
to_bytes from_bytes translate maketrans sort add discard __init__
""".split())

UNUSED_WORDS = re.compile(
    r"\b(type|typing|typing_extensions|enum|Enum|IntEnum|StrEnum|Flag|IntFlag|Generic|Protocol|ABC|ABCMeta|namedtuple"
    r"|NamedTuple|TypedDict|TYPE_CHECKING|abstractmethod)\b|dataclass|overload|contextmanager")

UNUSED_NAMES = set("""
register mro elements open input version_info with_traceback add_note attrgetter breakpoint builtins compile copyright
credits delattr dir eval exec exit gc getattr globals hasattr help id importlib license locals methodcaller os quit
setattr super vars sys format format_map args
""".split())

DUNDERS = ("__init__", "__eq__", "__repr__", "__str__", "__len__")

WALKED = ("zip", "enumerate", "range", "reversed")
WALKERS = ("list", "tuple", "dict", "sorted", "sum", "any", "all", "enumerate", "zip", "bytes", "min", "max", "len",
           "reversed", "set", "join")


def files():
    return sorted(PACKAGE.glob("*.py"))


def tree_of(file):
    return ast.parse(file.read_text(encoding="ascii"))


def given_names(tree):
    """Each name that is given a value, with the node where it is."""
    for node in ast.walk(tree):
        if isinstance(node, ast.Name) and isinstance(node.ctx, ast.Store):
            yield node.id, node
        elif isinstance(node, ast.arg):
            yield node.arg, node
        elif isinstance(node, (ast.FunctionDef, ast.ClassDef)):
            yield node.name, node


def drawn_from(tree):
    return [(node.module, [name.name for name in node.names]) for node in ast.walk(tree)
            if isinstance(node, ast.ImportFrom)]


class TestForm(unittest.TestCase):
    def each_node(self):
        for file in files():
            for node in ast.walk(tree_of(file)):
                yield f"{file.name}:{getattr(node, 'lineno', 0)}", node

    def test_files(self):
        for path in PACKAGE.iterdir():
            if path.name != "__pycache__":
                self.assertRegex(path.name, r"^[a-z0-9_]+\.py$")
        self.assertIn("__init__.py", [file.name for file in files()])

    def test_signs_and_size(self):
        for file in files():
            text = file.read_text(encoding="utf-8")
            self.assertRegex(text, r"\A[ -~\n]*\Z", file.name)
            rows = text.splitlines()
            self.assertLessEqual(len(rows), 400, file.name)
            self.assertLessEqual(max(map(len, rows)), 120, file.name)
            self.assertIsNone(UNUSED_WORDS.search(text), file.name)

    def test_rows_of_a_def(self):
        for place, node in self.each_node():
            if isinstance(node, ast.FunctionDef):
                self.assertLessEqual(node.end_lineno - node.lineno + 1, 40, place)
                self.assertEqual(node.decorator_list, [], place)
                told = node.args
                self.assertFalse(told.vararg or told.kwarg or told.posonlyargs, place)

    def test_nodes(self):
        for place, node in self.each_node():
            self.assertIn(node.__class__.__name__, NODES, place)
            if isinstance(node, (ast.For, ast.While)):
                self.assertEqual(node.orelse, [], place)
            if isinstance(node, ast.Starred):
                self.assertIsInstance(node.ctx, ast.Store, place)
            if isinstance(node, ast.FormattedValue):
                self.assertIsNone(node.format_spec, place)
                self.assertFalse([x for x in ast.walk(node.value) if isinstance(x, ast.JoinedStr)], place)

    def test_the_top_of_a_file(self):
        for file in files():
            body = tree_of(file).body
            self.assertIsNotNone(ast.get_docstring(tree_of(file)), file.name)
            names = []
            for node in body[1:]:
                self.assertIsInstance(node, (ast.ImportFrom, ast.FunctionDef, ast.ClassDef, ast.Assign), file.name)
                if isinstance(node, ast.ImportFrom):
                    names.extend(name.name for name in node.names)
                elif isinstance(node, ast.Assign):
                    names.extend(target.id for target in node.targets)
                    self.assertFalse([x for x in ast.walk(node.value) if isinstance(x, (ast.Call, ast.ListComp))])
                else:
                    names.append(node.name)
            self.assertEqual(len(names), len(set(names)), file.name)

    def test_imports(self):
        trees = {f"neverstuck.{file.stem}": tree_of(file) for file in files()}
        draws = {name: drawn_from(tree) for name, tree in trees.items()}
        for name, some in draws.items():
            for module, drawn in some:
                self.assertIn(module, trees, name)
                own = {given for given, node in given_names(ast.Module(trees[module].body, []))}
                self.assertLessEqual(set(drawn), own, name)
        settled = set()
        while len(settled) < len(draws):
            free = {name for name, some in draws.items() if {module for module, drawn in some} <= settled}
            self.assertGreater(free - settled, set(), "files draw from one another")
            settled |= free

    def test_given_names(self):
        for file in files():
            tree = tree_of(file)
            kept = {name for module, drawn in drawn_from(tree) for name in drawn}
            kept |= {node.name for node in ast.walk(tree) if isinstance(node, ast.ClassDef)}
            for name, node in given_names(tree):
                if name in DUNDERS:
                    continue
                place = f"{file.name}:{node.lineno} {name}"
                self.assertFalse(name.startswith("_"), place)
                self.assertFalse(hasattr(builtins, name), place)
                self.assertNotIn(name, UNUSED_NAMES, place)
                if not isinstance(node, ast.ClassDef):
                    self.assertNotIn(name, kept, place)

    def test_names_of_pythons_own(self):
        for place, node in self.each_node():
            if isinstance(node, ast.Name) and hasattr(builtins, node.id):
                self.assertIn(node.id, OWN_NAMES, place)

    def test_values_and_methods(self):
        own = set()
        for place, node in self.each_node():
            if isinstance(node, ast.Attribute) and isinstance(node.ctx, ast.Store):
                own.add(node.attr)
            elif isinstance(node, ast.ClassDef):
                own |= {row.name for row in node.body if isinstance(row, ast.FunctionDef)}
        for place, node in self.each_node():
            if isinstance(node, ast.Attribute):
                self.assertIn(node.attr, METHODS | own, place)
                self.assertNotIn(node.attr, UNUSED_NAMES, place)

    def test_is_stands_beside_none_and_truths(self):
        for place, node in self.each_node():
            if isinstance(node, ast.Compare) and isinstance(node.ops[0], (ast.Is, ast.IsNot)):
                ends = [node.left] + node.comparators
                self.assertTrue([x for x in ends if isinstance(x, ast.Constant) and x.value in (None, True, False)],
                                place)

    def test_written_values(self):
        for place, node in self.each_node():
            if isinstance(node, ast.Constant):
                self.assertNotIsInstance(node.value, (float, complex), place)
                if isinstance(node.value, str):
                    self.assertNotIn("%", node.value, place)

    def test_what_is_walked_is_walked_on_the_spot(self):
        for file in files():
            tree = tree_of(file)
            right = set()
            for node in ast.walk(tree):
                if isinstance(node, (ast.For, ast.comprehension)):
                    right.add(node.iter)
                elif isinstance(node, ast.Call):
                    name = node.func.id if isinstance(node.func, ast.Name) else getattr(node.func, "attr", "")
                    if name in WALKERS:
                        right |= set(node.args)
            for node in ast.walk(tree):
                if isinstance(node, ast.Call) and isinstance(node.func, ast.Name) and node.func.id in WALKED:
                    self.assertIn(node, right, f"{file.name}:{node.lineno}")

    def test_raises_an_own_error_on_the_spot(self):
        errors = {node.name for node in ast.walk(tree_of(PACKAGE / "errors.py")) if isinstance(node, ast.ClassDef)}
        for place, node in self.each_node():
            if isinstance(node, ast.Raise) and node.exc is not None:
                self.assertIsInstance(node.exc, ast.Call, place)
                self.assertIn(node.exc.func.id, errors, place)


if __name__ == "__main__":
    unittest.main()
