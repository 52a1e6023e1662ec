"""That the package keeps to its small part of Python, as far as its text shows it."""

import ast
import builtins
import pathlib
import re
import unittest

PACKAGE = pathlib.Path(__file__).resolve().parent.parent / "namebars"
FILES = sorted(path for path in PACKAGE.rglob("*") if "__pycache__" not in path.parts)

NODES = """Module FunctionDef ClassDef Return Assign AugAssign For While If Raise Try ExceptHandler Expr Pass Break
    Continue ImportFrom alias arguments arg BoolOp BinOp UnaryOp Lambda IfExp Dict List Tuple ListComp comprehension
    Compare Call keyword JoinedStr FormattedValue Constant Attribute Subscript Slice Name Load Store And Or Not USub
    Add Sub Mult FloorDiv Mod Pow LShift RShift BitOr BitXor BitAnd Invert Eq NotEq Lt LtE Gt GtE Is IsNot In NotIn
    """.split()
OWN_NAMES = """len range enumerate zip min max sum abs sorted reversed int str bool list tuple dict set frozenset
    isinstance ord repr any all divmod ValueError KeyError IndexError LookupError ZeroDivisionError
    ArithmeticError OverflowError RuntimeError NotImplementedError StopIteration""".split()
METHODS = """append clear copy count endswith extend find get index insert isalnum isalpha isdigit islower isspace
    isupper items join keys ljust lower lstrip partition pop remove replace reverse rfind rjust rpartition rsplit
    rstrip setdefault split splitlines startswith strip update upper values zfill bit_length""".split()
NOT_USED = """register mro elements open input version_info with_traceback add_note format format_map attrgetter
    breakpoint compile copyright credits delattr dir eval exec exit gc getattr globals hasattr help id importlib
    license locals methodcaller os quit setattr super vars sys""".split()
WORDS = re.compile(r"\b(type|typing|typing_extensions|enum|Enum|IntEnum|StrEnum|Flag|IntFlag|Generic|Protocol|ABC"
                   r"|ABCMeta|namedtuple|NamedTuple|TypedDict|TYPE_CHECKING|abstractmethod)\b"
                   r"|dataclass|overload|contextmanager")
CHANGES = """append clear extend insert pop remove reverse setdefault update""".split()


WALKED = """zip enumerate reversed range items keys values""".split()
WALKERS = """list tuple dict sorted sum any all enumerate zip min max""".split()


def name_of_call(node):
    return node.func.id if isinstance(node.func, ast.Name) else getattr(node.func, "attr", None)


def tree_of(path):
    return ast.parse(path.read_text(encoding="ascii"))


def nodes_of(sort):
    """Each node of this sort in the package, with its file's name."""
    return [(path.name, node) for path in FILES for node in ast.walk(tree_of(path)) if isinstance(node, sort)]


def drawn_from(path):
    return [node.module for node in ast.walk(tree_of(path)) if isinstance(node, ast.ImportFrom)]


class FilesTest(unittest.TestCase):

    def test_only_files_of_plain_names_lie_in_the_package(self):
        for path in FILES:
            self.assertRegex(path.name, r"^([a-z][a-z0-9_]*|__init__)\.py$")
            self.assertFalse(path.name.startswith("test"))
            self.assertNotIn(path.stem, dir(builtins))
        self.assertIn(PACKAGE / "__init__.py", FILES)

    def test_signs_words_and_sizes(self):
        for path in FILES:
            text = path.read_bytes().decode("ascii")
            lines = text.split("\n")
            self.assertRegex(text, r"^[ -~\n]*$")
            self.assertIsNone(WORDS.search(text), path.name)
            self.assertLessEqual(len(lines), 400)
            self.assertLessEqual(max(len(line) for line in lines), 120)

    def test_functions_are_short(self):
        for name, node in nodes_of(ast.FunctionDef):
            self.assertLessEqual(node.end_lineno - node.lineno + 1, 40, (name, node.name))
            self.assertEqual(node.decorator_list, [])

    def test_only_the_package_is_drawn_from_and_never_in_a_ring(self):
        modules = {f"namebars.{path.stem}": drawn_from(path) for path in FILES}
        self.assertEqual(modules["namebars.__init__"], [])
        for name, drawn in modules.items():
            self.assertLessEqual(set(drawn), set(modules), name)
            reached = list(drawn)
            for other in reached:
                reached.extend(further for further in modules[other] if further not in reached)
            self.assertNotIn(name, reached)

    def test_a_name_is_drawn_from_the_file_that_defines_it(self):
        for name, node in nodes_of(ast.ImportFrom):
            bound = names_bound_at_top(tree_of(PACKAGE / (node.module.split(".")[1] + ".py")))
            for alias in node.names:
                self.assertIn(alias.name, bound, name)
                self.assertIsNone(alias.asname)


def names_bound_at_top(tree):
    names = [node.name for node in tree.body if isinstance(node, (ast.FunctionDef, ast.ClassDef))]
    return names + [node.targets[0].id for node in tree.body if isinstance(node, ast.Assign)]


class CodeTest(unittest.TestCase):

    def test_only_allowed_sorts_of_code(self):
        for name, node in nodes_of(ast.AST):
            self.assertIn(node.__class__.__name__, NODES, (name, getattr(node, "lineno", 0)))

    def test_names_of_python(self):
        for name, node in nodes_of(ast.Name):
            if node.id in dir(builtins):
                self.assertIn(node.id, OWN_NAMES, name)
                self.assertIsInstance(node.ctx, ast.Load, name)
            self.assertNotIn(node.id, NOT_USED, name)
            self.assertFalse(node.id.startswith("_"), name)

    def test_parameters_and_locals_hide_nothing(self):
        for path in FILES:
            tree = tree_of(path)
            top = names_bound_at_top(tree)
            top += [alias.name for node in tree.body if isinstance(node, ast.ImportFrom) for alias in node.names]
            self.assertEqual(len(top), len(set(top)), path.name)
            inner = [node.arg for node in ast.walk(tree) if isinstance(node, ast.arg)]
            for node in ast.walk(tree):
                if isinstance(node, ast.FunctionDef):
                    inner += [name.id for name in ast.walk(node)
                              if isinstance(name, ast.Name) and isinstance(name.ctx, ast.Store)]
            self.assertEqual(set(inner) & (set(top) | set(dir(builtins))), set(), path.name)

    def test_methods_and_values_of_objects(self):
        own = {node.name for name, node in nodes_of(ast.FunctionDef)}
        values = set()
        for path in FILES:
            tree = tree_of(path)
            called = {id(node.func) for node in ast.walk(tree) if isinstance(node, ast.Call)}
            called |= {id(node.value) for node in ast.walk(tree) if isinstance(node, ast.keyword) and node.arg == "key"}
            for node in ast.walk(tree):
                if isinstance(node, ast.Attribute) and id(node) in called:
                    self.assertIn(node.attr, own | set(METHODS), path.name)
                elif isinstance(node, ast.Attribute):
                    values.add(node.attr)
                    self.assertNotIn(node.attr, NOT_USED, path.name)
        self.assertEqual(values & (own | set(METHODS)), set())

    def test_what_lies_at_a_top_is_not_changed(self):
        for path in FILES:
            tree = tree_of(path)
            top = names_bound_at_top(tree)
            for node in ast.walk(tree):
                if isinstance(node, ast.Attribute) and node.attr in CHANGES:
                    self.assertFalse(isinstance(node.value, ast.Name) and node.value.id in top, path.name)
                if isinstance(node, ast.Subscript) and isinstance(node.ctx, ast.Store):
                    self.assertFalse(isinstance(node.value, ast.Name) and node.value.id in top, path.name)

    def test_assignments_have_one_target(self):
        for name, node in nodes_of(ast.Assign):
            self.assertEqual(len(node.targets), 1, name)
            self.assertNotIsInstance(node.targets[0], (ast.Tuple, ast.List), name)

    def test_no_annotations(self):
        for name, node in nodes_of((ast.arg, ast.FunctionDef)):
            self.assertIsNone(node.annotation if isinstance(node, ast.arg) else node.returns, name)

    def test_nothing_at_a_top_lies_deeper_than_tuples(self):
        for path in FILES:
            for node in tree_of(path).body:
                if isinstance(node, ast.Assign):
                    inner = [part for part in ast.walk(node.value) if part is not node.value]
                    self.assertFalse([part for part in inner if isinstance(part, (ast.List, ast.Dict, ast.Call))])

    def test_what_is_walked_is_walked_on_the_spot(self):
        for path in FILES:
            tree = tree_of(path)
            allowed = {id(node.iter) for node in ast.walk(tree) if isinstance(node, (ast.For, ast.comprehension))}
            for node in ast.walk(tree):
                if isinstance(node, ast.Call) and isinstance(node.func, ast.Name) and node.func.id in WALKERS:
                    allowed |= {id(argument) for argument in node.args[:1]}
            for node in ast.walk(tree):
                if isinstance(node, ast.Call) and name_of_call(node) in WALKED:
                    self.assertIn(id(node), allowed, (path.name, node.lineno))

    def test_sets_stand_within_sorted_or_len_or_beside_in(self):
        for path in FILES:
            tree = tree_of(path)
            allowed = set()
            for node in ast.walk(tree):
                if isinstance(node, ast.Call) and name_of_call(node) in ("sorted", "len"):
                    allowed |= {id(argument) for argument in node.args if not node.keywords}
                if isinstance(node, ast.Compare):
                    allowed |= {id(right) for right in node.comparators}
            for node in ast.walk(tree):
                if isinstance(node, ast.Call) and name_of_call(node) in ("set", "frozenset"):
                    self.assertIn(id(node), allowed, (path.name, node.lineno))

    def test_keywords(self):
        allowed = {"sorted": ("key", "reverse"), "min": ("key", "default"), "max": ("key", "default"),
                   "sum": ("start",), "enumerate": ("start",), "zip": ("strict",)}
        for name, node in nodes_of(ast.Call):
            for keyword in node.keywords:
                self.assertIn(keyword.arg, allowed.get(name_of_call(node), ()), name)

    def test_is_stands_beside_none_true_and_false(self):
        for name, node in nodes_of(ast.Compare):
            for operator, right in zip(node.ops, node.comparators):
                if isinstance(operator, (ast.Is, ast.IsNot)):
                    self.assertIsInstance(right, ast.Constant, name)

    def test_only_whole_numbers_and_texts_are_written(self):
        for name, node in nodes_of(ast.Constant):
            self.assertIn(node.value.__class__, (int, str, bool, None.__class__), name)


if __name__ == "__main__":
    unittest.main()
