"""The package's files keep to the small part of Python that the project asks for."""

import ast
import builtins
import pathlib
import re
import unittest

import pagemoves

FOLDER = pathlib.Path(pagemoves.__file__).parent
FILES = sorted(FOLDER.glob("*.py"))

NODES = """Module Expr Constant ImportFrom alias Assign AugAssign FunctionDef arguments arg Return ClassDef If While For
Break Continue Pass Raise Try ExceptHandler Call keyword Attribute Subscript Slice Name Load Store List Tuple Dict ListComp
comprehension Lambda IfExp BoolOp And Or UnaryOp Not USub BinOp Add Sub Mult FloorDiv Mod Pow BitAnd BitOr BitXor LShift
RShift Compare Eq NotEq Lt LtE Gt GtE In NotIn Is IsNot JoinedStr FormattedValue""".split()
OWN_NAMES = """len range enumerate zip min max sum abs sorted reversed int str bool list tuple dict set frozenset isinstance
ord repr any all divmod Exception ValueError TypeError KeyError IndexError LookupError ZeroDivisionError ArithmeticError
OverflowError RuntimeError NotImplementedError AttributeError StopIteration""".split()
METHODS = """append clear copy count endswith extend find get index insert isalnum isalpha isdigit islower isspace isupper
items join keys ljust lower lstrip partition pop remove replace reverse rfind rjust rpartition rsplit rstrip setdefault
split splitlines startswith strip update upper values zfill bit_length""".split()
UNUSED_NAMES = """register mro elements open input version_info with_traceback add_note attrgetter breakpoint builtins compile
copyright credits delattr dir eval exec exit gc getattr globals hasattr help id importlib license locals methodcaller os quit
setattr super type vars sys chr print""".split()
UNUSED_WORDS = """type typing typing_extensions enum Enum IntEnum StrEnum Flag IntFlag Generic Protocol ABC ABCMeta namedtuple
NamedTuple TypedDict TYPE_CHECKING abstractmethod""".split()
VALUE_METHODS = {name for kind in (str, int, list, dict, set, bytes) for name in dir(kind)}
TAKEN_VALUES = "count index title find get join lower upper split strip copy add".split()


TREES = {path: ast.parse(path.read_text()) for path in FILES}


def walk(path, *kinds):
    return [node for node in ast.walk(TREES[path]) if isinstance(node, kinds)]


def own_methods(path):
    return [item for one in walk(path, ast.ClassDef) for item in one.body if isinstance(item, ast.FunctionDef)]


def is_plain(node, above):
    if isinstance(node, (ast.Tuple, ast.List)):
        return all(is_plain(item, above) for item in node.elts)
    if isinstance(node, ast.Dict):
        return all(is_plain(item, above) for item in node.keys + node.values)
    if isinstance(node, ast.UnaryOp):
        return isinstance(node.operand, ast.Constant)
    if isinstance(node, ast.Name):
        return node.id in above
    return isinstance(node, ast.Constant) and isinstance(node.value, (int, str, type(None)))


class Language(unittest.TestCase):
    def each(self, *kinds):
        """Each node, and where it stands, for the messages."""
        found = [(path, node) for path in FILES for node in walk(path, *kinds)]
        return [((path.name, getattr(node, "lineno", 0)), node) for path, node in found]

    def test_files(self):
        self.assertIn(FOLDER / "__init__.py", FILES)
        others = [item.name for item in FOLDER.iterdir() if item not in FILES and item.name != "__pycache__"]
        self.assertEqual([], others)
        for path in FILES:
            self.assertRegex(path.name, r"\A[a-z][a-z0-9_]*\.py\Z|\A__init__\.py\Z")
            self.assertNotIn(path.stem, dir(builtins))

    def test_signs_and_sizes(self):
        for path in FILES:
            text = path.read_text()
            self.assertRegex(text, r"\A[ -~\n]*\Z")
            self.assertLessEqual(text.count("\n"), 400)
            self.assertLessEqual(max(len(line) for line in text.split("\n")), 120)
        for where, node in self.each(ast.FunctionDef):
            self.assertLessEqual(node.end_lineno - node.lineno + 1, 40, where)

    def test_words_that_stand_nowhere(self):
        for path in FILES:
            text = path.read_text()
            for word in UNUSED_WORDS:
                self.assertIsNone(re.search(r"\b" + word + r"\b", text), (path.name, word))
            self.assertIsNone(re.search("dataclass|overload|contextmanager", text))

    def test_nodes(self):
        for where, node in self.each(ast.AST):
            self.assertIn(node.__class__.__name__, NODES, where)

    def test_imports(self):
        drawn = {}
        for path in FILES:
            drawn[path.stem] = []
            body = TREES[path].body
            imports = [node for node in body if isinstance(node, ast.ImportFrom)]
            self.assertEqual(len(imports), len(walk(path, ast.ImportFrom)))
            for node in imports:
                self.assertEqual(0, node.level)
                self.assertRegex(node.module, r"\Apagemoves\.[a-z]+\Z")
                source = FOLDER / (node.module.split(".")[1] + ".py")
                drawn[path.stem].append(source.stem)
                tops = self.top_names(source)
                for name in node.names:
                    self.assertIsNone(name.asname)
                    self.assertIn(name.name, tops)
        while drawn:
            free = [name for name in drawn if not set(drawn[name]) & set(drawn)]
            self.assertNotEqual([], free, "files that draw from one another")
            for name in free:
                drawn.pop(name)

    def top_names(self, path):
        names = []
        for node in TREES[path].body:
            if isinstance(node, ast.Assign):
                names.append(node.targets[0].id)
            elif isinstance(node, (ast.FunctionDef, ast.ClassDef)):
                names.append(node.name)
        return names

    def test_tops(self):
        for path in FILES:
            above = []
            body = TREES[path].body
            self.assertIsInstance(body[0].value, ast.Constant)
            for node in body[1:]:
                self.assertIsInstance(node, (ast.ImportFrom, ast.Assign, ast.FunctionDef, ast.ClassDef))
                if isinstance(node, ast.Assign):
                    self.assertTrue(is_plain(node.value, above), (path.name, node.lineno))
                    if isinstance(node.value, ast.Dict):
                        inner = node.value.values
                        self.assertFalse([item for item in inner if isinstance(item, (ast.List, ast.Dict))])
                elif isinstance(node, ast.FunctionDef):
                    above.append(node.name)
            names = self.top_names(path)
            self.assertEqual(len(names), len(set(names)))

    def test_functions_and_classes(self):
        for where, node in self.each(ast.FunctionDef):
            self.assertEqual([], node.decorator_list, where)
            self.assertIsNone(node.returns, where)
            self.assertIsNone(ast.get_docstring(node), where)
            self.assertFalse(node.args.vararg or node.args.kwarg or node.args.kwonlyargs or node.args.posonlyargs, where)
            self.assertFalse([arg for arg in node.args.args if arg.annotation], where)
        for where, node in self.each(ast.ClassDef):
            self.assertLessEqual(len(node.bases), 1, where)
            self.assertFalse(node.decorator_list or node.keywords, where)
            self.assertFalse([item for item in node.body if not isinstance(item, (ast.FunctionDef, ast.Pass))], where)

    def test_statements(self):
        for where, node in self.each(ast.Assign):
            self.assertEqual(1, len(node.targets), where)
            self.assertIsInstance(node.targets[0], (ast.Name, ast.Attribute, ast.Subscript), where)
        for where, node in self.each(ast.For, ast.While):
            self.assertEqual([], node.orelse, where)
        for where, node in self.each(ast.Try):
            self.assertEqual([], node.finalbody, where)
        for where, node in self.each(ast.ExceptHandler):
            self.assertIsInstance(node.type, ast.Name, where)
            self.assertNotIn(node.type.id, ("Exception", "TypeError", "ValueError", "LookupError", "IndexError"), where)
        for where, node in self.each(ast.Raise):
            self.assertIsInstance(node.exc, ast.Call, where)
        for where, node in self.each(ast.ListComp):
            self.assertEqual(1, len(node.generators), where)
            self.assertLessEqual(len(node.generators[0].ifs), 1, where)

    def test_values(self):
        for where, node in self.each(ast.Constant):
            self.assertIsInstance(node.value, (int, str, type(None)), where)
            if isinstance(node.value, str):
                self.assertNotIn("%", node.value, where)
        for where, node in self.each(ast.BinOp):
            self.assertNotIsInstance(node.op, ast.Pow, where)

    def test_names(self):
        for where, node in self.each(ast.Name):
            self.assertRegex(node.id, r"\A[A-Za-z][A-Za-z0-9_]*\Z", where)
            self.assertNotIn(node.id, UNUSED_NAMES, where)
            if node.id in dir(builtins):
                self.assertIn(node.id, OWN_NAMES, where)
                self.assertIsInstance(node.ctx, ast.Load, where)
        for where, node in self.each(ast.FunctionDef, ast.ClassDef, ast.arg):
            name = node.arg if isinstance(node, ast.arg) else node.name
            self.assertNotIn(name, dir(builtins), where)
            if name != "__init__":
                self.assertRegex(name, r"\A[A-Za-z][A-Za-z0-9_]*\Z", where)
                self.assertNotIn(name, UNUSED_NAMES, where)

    def test_locals_are_not_called_like_imports_or_classes(self):
        for path in FILES:
            taken = {name.name for node in walk(path, ast.ImportFrom) for name in node.names}
            taken |= {node.name for node in walk(path, ast.ClassDef)}
            bound = {node.id for node in walk(path, ast.Name) if isinstance(node.ctx, ast.Store)}
            bound |= {node.arg for node in walk(path, ast.arg)}
            self.assertEqual(set(), taken & bound, path.name)

    def test_methods_and_values(self):
        methods = {item.name for path in FILES for item in own_methods(path)}
        values = {node.attr for path in FILES for node in walk(path, ast.Attribute) if isinstance(node.ctx, ast.Store)}
        self.assertEqual(set(), methods & values)
        self.assertEqual(set(), (methods - {"__init__"}) & VALUE_METHODS)
        self.assertEqual(set(), values & VALUE_METHODS - set(TAKEN_VALUES))
        for where, node in self.each(ast.Attribute):
            self.assertIn(node.attr, methods | values | set(METHODS), where)
            self.assertNotIn(node.attr, UNUSED_NAMES, where)

    def test_sets_and_walks_are_used_on_the_spot(self):
        for path in FILES:
            parents = {}
            for node in walk(path, ast.AST):
                for child in ast.iter_child_nodes(node):
                    parents[child] = node
            for node in walk(path, ast.Call):
                called = node.func.id if isinstance(node.func, ast.Name) else getattr(node.func, "attr", "")
                parent = parents[node]
                if called == "set":
                    self.assertTrue(isinstance(parent, ast.Call) and parent.func.id in ("len", "sorted"), (path, node.lineno))
                if called in ("zip", "enumerate", "range", "reversed", "items", "keys", "values"):
                    self.assertIsInstance(parent, (ast.For, ast.comprehension), (path, node.lineno))


if __name__ == "__main__":
    unittest.main()
