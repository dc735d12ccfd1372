"""The package keeps to its small part of the language: what of the rules L1 to L28 can be seen from the outside."""

import ast
import builtins
import re
import unittest
from pathlib import Path

PACKAGE = Path(__file__).resolve().parent.parent / "seasonlake"

NODES = """
Module FunctionDef ClassDef Return Assign AugAssign For While If Raise Try ExceptHandler ImportFrom alias Expr Pass
Break Continue arguments arg BoolOp And Or BinOp Add Sub Mult FloorDiv Mod UnaryOp Not USub Lambda IfExp Dict List Tuple
Compare Eq NotEq Lt LtE Gt GtE Is IsNot In NotIn Call JoinedStr FormattedValue Constant Attribute Subscript Slice Name
Load Store ListComp comprehension keyword
""".split()

OWN_NAMES = """
len range enumerate zip min max sum abs sorted reversed int str bool list tuple dict set frozenset isinstance ord repr any
all divmod Exception ValueError TypeError KeyError IndexError LookupError ZeroDivisionError ArithmeticError OverflowError
RuntimeError NotImplementedError AttributeError StopIteration
""".split()

METHODS = """
append clear copy count endswith extend find get index insert isalnum isalpha isdigit islower isspace isupper items join
keys ljust lower lstrip partition pop remove replace reverse rfind rjust rpartition rsplit rstrip setdefault split
splitlines startswith strip update upper values zfill bit_length
""".split()

FORBIDDEN_WORDS = """
type typing typing_extensions enum Enum IntEnum StrEnum Flag IntFlag Generic Protocol ABC ABCMeta namedtuple NamedTuple
TypedDict TYPE_CHECKING abstractmethod
""".split()

FORBIDDEN_NAMES = "register mro elements open input version_info with_traceback add_note format format_map".split()

WALKED = "zip enumerate reversed range".split()


class Language(unittest.TestCase):
    def setUp(self):
        self.texts = {path.stem: path.read_text("ascii") for path in sorted(PACKAGE.glob("*.py"))}
        self.trees = {stem: ast.parse(text) for stem, text in self.texts.items()}

    def nodes(self, *sorts):
        for stem, tree in self.trees.items():
            for node in ast.walk(tree):
                if isinstance(node, sorts):
                    yield stem, node

    def own_methods(self):
        return {part.name for stem, node in self.nodes(ast.ClassDef) for part in node.body if isinstance(part, ast.FunctionDef)}

    def test_files(self):
        there = [path.name for path in PACKAGE.iterdir() if path.name != "__pycache__"]
        self.assertIn("__init__.py", there)
        for name in there:
            self.assertRegex(name, r"^(__init__|[a-z][a-z0-9_]*)\.py$")
            self.assertNotIn(name[:-3], dir(builtins) + FORBIDDEN_WORDS + ["test", "tests", "testing", "site", "conftest"])

    def test_signs_and_sizes(self):
        for stem, text in self.texts.items():
            self.assertRegex(text, r"^[ -~\n]*$", stem)
            rows = text.split("\n")
            self.assertLessEqual(len(rows), 399, stem)
            self.assertLessEqual(max(map(len, rows)), 120, stem)
        for stem, node in self.nodes(ast.FunctionDef):
            self.assertLessEqual(node.end_lineno - node.lineno + 1, 40, node.name)

    def test_forbidden_words(self):
        for stem, text in self.texts.items():
            for word in FORBIDDEN_WORDS:
                self.assertIsNone(re.search(rf"\b{word}\b", text), (stem, word))
            self.assertIsNone(re.search("dataclass|overload|contextmanager", text), stem)

    def test_nodes(self):
        for stem, node in self.nodes(ast.AST):
            self.assertIn(node.__class__.__name__, NODES, (stem, getattr(node, "lineno", None)))

    def test_statements(self):
        for stem, node in self.nodes(ast.Expr):
            docstring = isinstance(node.value, ast.Constant) and node is self.trees[stem].body[0]
            self.assertTrue(docstring or isinstance(node.value, ast.Call), (stem, node.lineno))
        for stem, node in self.nodes(ast.Assign):
            self.assertEqual(len(node.targets), 1)
            self.assertIsInstance(node.targets[0], (ast.Name, ast.Attribute, ast.Subscript), (stem, node.lineno))
        for stem, node in self.nodes(ast.For, ast.While):
            self.assertEqual(node.orelse, [], (stem, node.lineno))
        for stem, node in self.nodes(ast.Try):
            self.assertEqual(node.finalbody, [])
            for handler in node.handlers:
                self.assertIsInstance(handler.type, ast.Name)
        for stem, node in self.nodes(ast.ListComp):
            self.assertEqual(len(node.generators), 1)
            self.assertLessEqual(len(node.generators[0].ifs), 1)
        for stem, node in self.nodes(ast.FormattedValue):
            self.assertIsInstance(node.value, ast.Name)
        for stem, node in self.nodes(ast.Compare):
            if any(isinstance(sign, (ast.Is, ast.IsNot)) for sign in node.ops):
                self.assertIsInstance(node.comparators[0], ast.Constant)

    def test_top_of_files(self):
        for stem, tree in self.trees.items():
            self.assertIsNotNone(ast.get_docstring(tree), stem)
            bound = []
            for node in tree.body[1:]:
                self.assertIsInstance(node, (ast.ImportFrom, ast.Assign, ast.FunctionDef, ast.ClassDef), stem)
                if isinstance(node, ast.ImportFrom):
                    bound += [name.name for name in node.names]
                elif isinstance(node, ast.Assign):
                    bound.append(node.targets[0].id)
                    ast.literal_eval(node.value)
                else:
                    bound.append(node.name)
            self.assertEqual(len(bound), len(set(bound)), stem)

    def test_imports(self):
        drawn = {stem: set() for stem in self.trees}
        for stem, node in self.nodes(ast.ImportFrom):
            self.assertEqual(node.level, 0)
            self.assertTrue(node.module.startswith("seasonlake."), node.module)
            source = node.module.split(".")[1]
            drawn[stem].add(source)
            defined = [part.name for part in self.trees[source].body if hasattr(part, "name")]
            defined += [part.targets[0].id for part in self.trees[source].body if isinstance(part, ast.Assign)]
            for name in node.names:
                self.assertIsNone(name.asname)
                self.assertIn(name.name, defined)
        while drawn:
            free = [stem for stem in drawn if not drawn[stem] & set(drawn)]
            self.assertTrue(free, drawn)
            drawn = {stem: sources for stem, sources in drawn.items() if stem not in free}

    def test_names(self):
        for stem, tree in self.trees.items():
            given = {node.id for node in ast.walk(tree) if isinstance(node, ast.Name) and isinstance(node.ctx, ast.Store)}
            given |= {node.arg for node in ast.walk(tree) if isinstance(node, ast.arg)}
            given |= {node.name for node in ast.walk(tree) if isinstance(node, ast.ExceptHandler) and node.name}
            outer = {name.name for node in tree.body if isinstance(node, ast.ImportFrom) for name in node.names}
            outer |= {node.name for node in tree.body if isinstance(node, ast.ClassDef)}
            self.assertEqual(given & (outer | set(dir(builtins)) | set(FORBIDDEN_NAMES)), set(), stem)
            defined = {node.name for node in ast.walk(tree) if isinstance(node, (ast.FunctionDef, ast.ClassDef))}
            for name in given | defined - {"__init__"}:
                self.assertRegex(name, r"^[A-Za-z][A-Za-z0-9_]*$")
            used = {node.id for node in ast.walk(tree) if isinstance(node, ast.Name)}
            self.assertEqual({name for name in used if hasattr(builtins, name)} - set(OWN_NAMES), set(), stem)

    def test_functions_and_classes(self):
        for stem, node in self.nodes(ast.FunctionDef, ast.ClassDef):
            self.assertEqual(node.decorator_list, [], node.name)
        for stem, node in self.nodes(ast.arguments):
            self.assertIsNone(node.vararg or node.kwarg)
            self.assertEqual(node.kwonlyargs + node.posonlyargs + node.defaults, [])
        for stem, node in self.nodes(ast.ClassDef):
            self.assertLessEqual(len(node.bases), 1)
            for part in node.body:
                self.assertIsInstance(part, ast.FunctionDef, node.name)

    def test_methods_and_values(self):
        own = self.own_methods()
        of_pythons = {name for sort in (str, int, list, dict, set, bytes, tuple) for name in dir(sort)}
        values = {node.attr for stem, node in self.nodes(ast.Attribute) if isinstance(node.ctx, ast.Store)}
        self.assertEqual(values & own, set())
        self.assertEqual((values | own - {"__init__"}) & of_pythons, set())
        self.assertEqual((values | own) & set(FORBIDDEN_NAMES), set())
        called = [node.func.attr for stem, node in self.nodes(ast.Call) if isinstance(node.func, ast.Attribute)]
        self.assertEqual(set(called) - own - set(METHODS) - {"__init__"}, set())

    def test_walked_at_once(self):
        walked = set()
        for stem, node in self.nodes(ast.For, ast.comprehension):
            walked.add(node.iter)
        for stem, node in self.nodes(ast.Call):
            name = node.func.id if isinstance(node.func, ast.Name) else node.func.attr
            if name in WALKED + ["items", "keys", "values"]:
                self.assertIn(node, walked, (stem, node.lineno))

    def test_errors(self):
        own = [node.name for stem, node in self.nodes(ast.ClassDef) if node.bases]
        for stem, node in self.nodes(ast.ExceptHandler):
            self.assertIn(node.type.id, own, (stem, node.lineno))
        for stem, node in self.nodes(ast.Raise):
            self.assertIsInstance(node.exc, ast.Call, (stem, node.lineno))

    def test_methods_are_called_where_they_stand(self):
        called = {node.func for stem, node in self.nodes(ast.Call)}
        for stem, node in self.nodes(ast.Attribute):
            if node.attr in self.own_methods() | set(METHODS):
                self.assertIn(node, called, (stem, node.lineno))

    def test_pythons_own_functions_and_classes_are_not_handed_on(self):
        classes = {node.name for stem, node in self.nodes(ast.ClassDef)}
        fine = {node.func for stem, node in self.nodes(ast.Call)}
        fine |= {base for stem, node in self.nodes(ast.ClassDef) for base in node.bases}
        fine |= {node.type for stem, node in self.nodes(ast.ExceptHandler)}
        fine |= {node.value for stem, node in self.nodes(ast.Attribute) if node.attr == "__init__"}
        for stem, node in self.nodes(ast.Name):
            if node.id in classes or node.id in OWN_NAMES:
                self.assertIn(node, fine, (stem, node.lineno))
            self.assertNotIn(node.id, ("set", "frozenset"))

    def test_tops_are_only_read(self):
        for stem, tree in self.trees.items():
            tops = [node for node in tree.body if isinstance(node, ast.Assign) and isinstance(node.value, (ast.Tuple, ast.List, ast.Dict))]
            names = [node.targets[0].id for node in tops]
            read = {node.value for node in ast.walk(tree) if isinstance(node, ast.Subscript) and isinstance(node.ctx, ast.Load)}
            for node in ast.walk(tree):
                if isinstance(node, ast.Compare) and isinstance(node.ops[0], (ast.In, ast.NotIn)):
                    read.add(node.comparators[0])
            for node in ast.walk(tree):
                if isinstance(node, ast.Name) and node.id in names and isinstance(node.ctx, ast.Load):
                    self.assertIn(node, read, (stem, node.lineno))

    def test_texts(self):
        for stem, node in self.nodes(ast.Constant):
            self.assertIsInstance(node.value, (int, str, bool, None.__class__), stem)
            if isinstance(node.value, str):
                self.assertNotIn("%", node.value)

    def test_the_interface_stands_in_its_file_alone(self):
        at_top = [(stem, node) for stem, tree in self.trees.items() for node in tree.body if getattr(node, "name", "") == "answers"]
        self.assertEqual([stem for stem, node in at_top], ["gates"])
        arguments = at_top[0][1].args
        self.assertEqual(([part.arg for part in arguments.args], arguments.defaults), (["calls"], []))


if __name__ == "__main__":
    unittest.main()
