"""The package's own files keep to the small part of Python that the program is written in (what of it can be told by
looking at the code)."""

import ast
import builtins
import os
import re
import unittest

PACKAGE = os.path.join(os.path.dirname(os.path.dirname(os.path.abspath(__file__))), "ferryjournals")

NODES = {
    "Module", "Expr", "Constant", "Load", "Store", "Name", "Attribute", "Subscript", "Slice", "ImportFrom", "alias",
    "FunctionDef", "arguments", "arg", "ClassDef", "Return", "Assign", "AugAssign", "If", "IfExp", "While", "For", "Break",
    "Continue", "Pass", "Raise", "Try", "ExceptHandler", "Call", "keyword", "List", "Tuple", "Dict", "ListComp",
    "comprehension", "Compare", "BoolOp", "BinOp", "UnaryOp", "And", "Or", "Not", "USub", "Invert", "Add", "Sub", "Mult",
    "FloorDiv", "Mod", "Pow", "BitAnd", "BitOr", "BitXor", "LShift", "RShift", "Eq", "NotEq", "Lt", "LtE", "Gt", "GtE",
    "In", "NotIn", "Is", "IsNot", "Lambda", "JoinedStr", "FormattedValue",
}
BUILTINS = set(
    "len range enumerate zip min max sum abs sorted reversed int str bool list tuple dict set frozenset isinstance ord repr"
    " any all divmod ValueError Exception KeyError".split()
)
METHODS = set(
    "append clear copy count endswith extend find get index insert isalnum isalpha isdigit islower isspace isupper items"
    " join keys ljust lower lstrip partition pop remove replace reverse rfind rjust rpartition rsplit rstrip setdefault"
    " split splitlines startswith strip update upper values zfill bit_length".split()
)
BUILTIN_ATTRIBUTES = {name for kind in (str, int, list, dict, set, bytes, tuple) for name in dir(kind)}
WORDS = re.compile(
    r"\b(type|typing|typing_extensions|enum|Enum|IntEnum|StrEnum|Flag|IntFlag|Generic|Protocol|ABC|ABCMeta|namedtuple"
    r"|NamedTuple|TypedDict|TYPE_CHECKING|abstractmethod)\b|dataclass|overload|contextmanager"
)


def files():
    return [name for name in sorted(os.listdir(PACKAGE)) if name != "__pycache__"]


def source(name):
    with open(os.path.join(PACKAGE, name), encoding="ascii", newline="") as file:
        return file.read()


def nodes(name, *kinds):
    return [node for node in ast.walk(ast.parse(source(name))) if not kinds or isinstance(node, kinds)]


class FormTest(unittest.TestCase):
    def test_files(self):
        self.assertIn("__init__.py", files())
        for name in files():
            self.assertRegex(name, r"^(__init__|[a-z][a-z0-9_]*)\.py$")
            self.assertNotIn(name[:-3], dir(builtins))

    def test_sizes_and_signs(self):
        for name in files():
            text = source(name)
            self.assertRegex(text, r"\A[ -~\n]*\Z")
            self.assertIsNone(WORDS.search(text), name)
            lines = text.split("\n")
            self.assertLessEqual(len(lines), 400)
            self.assertLessEqual(max(len(line) for line in lines), 120, name)
            for node in nodes(name, ast.FunctionDef):
                self.assertLessEqual(node.end_lineno - node.lineno + 1, 40, node.name)

    def test_nodes(self):
        for name in files():
            self.assertEqual({kind.__class__.__name__ for kind in nodes(name)} - NODES, set(), name)

    def test_statements(self):
        for name in files():
            for node in nodes(name, ast.For, ast.While):
                self.assertEqual(node.orelse, [], name)
            for node in nodes(name, ast.Assign):
                self.assertEqual(len(node.targets), 1, name)
                self.assertNotIsInstance(node.targets[0], (ast.Tuple, ast.List), name)
            for node in nodes(name, ast.FunctionDef, ast.ClassDef):
                self.assertEqual(node.decorator_list, [], name)
            for node in nodes(name, ast.ListComp):
                self.assertEqual(len(node.generators), 1, name)
            for node in nodes(name, ast.Compare):
                if isinstance(node.ops[0], (ast.Is, ast.IsNot)):
                    self.assertIsInstance(node.comparators[0], ast.Constant)
            for node in nodes(name, ast.Constant):
                self.assertIn(type(node.value), (int, str, bool, type(None)), name)

    def test_imports(self):
        drawn = {}
        for name in files():
            own = [node.module for node in nodes(name, ast.ImportFrom)]
            for node in nodes(name, ast.ImportFrom):
                self.assertEqual(node.level, 0)
                self.assertRegex(node.module, r"^ferryjournals\.[a-z_]+$")
                at_top = [one.name for one in ast.parse(source(node.module[14:] + ".py")).body if hasattr(one, "name")]
                at_top += [one.targets[0].id for one in ast.parse(source(node.module[14:] + ".py")).body
                           if isinstance(one, ast.Assign)]
                for alias in node.names:
                    self.assertIn(alias.name, at_top)
                    self.assertIsNone(alias.asname)
            drawn["ferryjournals." + name[:-3]] = own
        while drawn:
            free = [module for module, own in drawn.items() if not any(one in drawn for one in own)]
            self.assertNotEqual(free, [], "files that draw from one another")
            for module in free:
                drawn.pop(module)

    def test_the_top_of_a_file(self):
        for name in files():
            bound = []
            for node in ast.parse(source(name)).body:
                if isinstance(node, ast.Expr):
                    self.assertIsInstance(node.value, ast.Constant)
                elif isinstance(node, ast.Assign):
                    ast.literal_eval(node.value)
                    bound.append(node.targets[0].id)
                elif isinstance(node, ast.ImportFrom):
                    bound.extend(alias.name for alias in node.names)
                else:
                    self.assertIsInstance(node, (ast.FunctionDef, ast.ClassDef))
                    bound.append(node.name)
            self.assertEqual(len(bound), len(set(bound)), name)

    def test_names(self):
        for name in files():
            tree = ast.parse(source(name))
            top = {alias.name for node in tree.body if isinstance(node, ast.ImportFrom) for alias in node.names}
            top |= {node.name for node in tree.body if isinstance(node, ast.ClassDef)}
            made = [node.id for node in nodes(name, ast.Name) if isinstance(node.ctx, ast.Store)]
            made += [node.arg for node in nodes(name, ast.arg)]
            for one in made:
                self.assertRegex(one, r"^[A-Za-z][A-Za-z0-9_]*$")
                self.assertNotIn(one, top, name)
                self.assertNotIn(one, dir(builtins), name)
            for node in nodes(name, ast.FunctionDef):
                if node.name != "__init__":
                    self.assertNotIn(node.name, dir(builtins), name)
                    self.assertFalse(node.name.startswith("_"))
            for node in nodes(name, ast.Name):
                if node.id in dir(builtins):
                    self.assertIn(node.id, BUILTINS, name)

    def test_attributes(self):
        methods = set()
        values = set()
        for name in files():
            for holder in nodes(name, ast.ClassDef):
                methods |= {node.name for node in holder.body if isinstance(node, ast.FunctionDef)}
                values |= {
                    node.attr for node in ast.walk(holder)
                    if isinstance(node, ast.Attribute) and isinstance(node.ctx, ast.Store)
                }
        self.assertEqual(methods & values, set())
        self.assertEqual((methods - {"__init__"} | values) & BUILTIN_ATTRIBUTES, set())
        for name in files():
            for node in nodes(name, ast.Attribute):
                self.assertIn(node.attr, methods | values | METHODS, name)


if __name__ == "__main__":
    unittest.main()
