"""The part of LANGUAGE.md that can be seen by going through the package's files."""

import ast
import builtins
import pathlib
import re
import unittest

PACKAGE = pathlib.Path(__file__).resolve().parent.parent / "beadbodies"

OWN_NAMES = set("""len range enumerate zip min max sum abs sorted reversed int str bool list tuple dict set frozenset
    isinstance ord repr any all divmod Exception ValueError TypeError KeyError IndexError LookupError
    ZeroDivisionError ArithmeticError OverflowError RuntimeError NotImplementedError AttributeError
    StopIteration""".split())

OWN_METHODS = set("""append clear copy count endswith extend find get index insert isalnum isalpha isdigit islower
    isspace isupper items join keys ljust lower lstrip partition pop remove replace reverse rfind rjust rpartition
    rsplit rstrip setdefault split splitlines startswith strip update upper values zfill bit_length""".split())

UNUSED_NAMES = set("""register mro elements open input version_info with_traceback add_note attrgetter breakpoint
    builtins compile copyright credits delattr dir eval exec exit gc getattr globals hasattr help id importlib license
    locals methodcaller os quit setattr super type vars sys format format_map __name__""".split())

UNUSED_WORDS = re.compile(r"""\b(type|typing|typing_extensions|enum|Enum|IntEnum|StrEnum|Flag|IntFlag|Generic|Protocol
    |ABC|ABCMeta|namedtuple|NamedTuple|TypedDict|TYPE_CHECKING|abstractmethod)\b
    |dataclass|overload|contextmanager""", re.VERBOSE)

UNDERSCORED = {"__init__", "__eq__", "__repr__", "__str__", "__len__", "__all__", "__version__"}

USED_NODES = (
    ast.Module, ast.ImportFrom, ast.alias, ast.FunctionDef, ast.ClassDef, ast.arguments, ast.arg, ast.Lambda,
    ast.Assign, ast.AugAssign, ast.If, ast.While, ast.For, ast.Return, ast.Break, ast.Continue, ast.Pass, ast.Raise,
    ast.Try, ast.ExceptHandler, ast.Expr, ast.Constant, ast.List, ast.Tuple, ast.Dict, ast.Name, ast.Attribute,
    ast.Subscript, ast.Slice, ast.Call, ast.keyword, ast.BinOp, ast.UnaryOp, ast.BoolOp, ast.Compare, ast.IfExp,
    ast.ListComp, ast.comprehension, ast.JoinedStr, ast.FormattedValue, ast.expr_context, ast.boolop, ast.unaryop,
    ast.cmpop, ast.operator)


# What is walked on the spot, and what may walk it beside a loop.
WALKED = {"range", "zip", "enumerate", "reversed", "items", "keys", "values"}
WALKERS = {"list", "tuple", "dict", "sorted", "sum", "any", "all", "enumerate", "zip", "min", "max"}

PYTHONS_OWN = {name for kind in (str, int, list, tuple, dict, set, bytes) for name in dir(kind)}


def package_files():
    return sorted(path for path in PACKAGE.rglob("*") if path.is_file() and path.suffix != ".pyc")


def bound_names(tree):
    """Every name that a file gives a meaning to, with the row where it does."""
    for node in ast.walk(tree):
        if isinstance(node, (ast.FunctionDef, ast.ClassDef)):
            yield node.name, node.lineno
        elif isinstance(node, ast.arg):
            yield node.arg, node.lineno
        elif isinstance(node, ast.Name) and isinstance(node.ctx, ast.Store):
            yield node.id, node.lineno
        elif isinstance(node, ast.Attribute) and isinstance(node.ctx, ast.Store):
            yield node.attr, node.lineno
        elif isinstance(node, ast.ExceptHandler) and node.name:
            yield node.name, node.lineno


def own_methods(trees):
    classes = [node for tree in trees for node in ast.walk(tree) if isinstance(node, ast.ClassDef)]
    return {part.name for found in classes for part in found.body if isinstance(part, ast.FunctionDef)}


def own_values(trees):
    nodes = [node for tree in trees for node in ast.walk(tree)]
    return {node.attr for node in nodes if isinstance(node, ast.Attribute) and isinstance(node.ctx, ast.Store)}


def called_name(node):
    """The name or method that a call calls, None of anything else."""
    if not isinstance(node, ast.Call):
        return None
    return node.func.attr if isinstance(node.func, ast.Attribute) else getattr(node.func, "id", None)


def walked_places(tree):
    """The nodes that stand where something is walked on the spot."""
    for node in ast.walk(tree):
        if isinstance(node, (ast.For, ast.comprehension)):
            yield node.iter
        elif called_name(node) in WALKERS:
            yield from node.args


class Language(unittest.TestCase):
    def setUp(self):
        self.files = {path.name: path.read_text(encoding="utf-8") for path in package_files()}
        self.trees = {name: ast.parse(text) for name, text in self.files.items()}

    def each_node(self):
        for name, tree in self.trees.items():
            for node in ast.walk(tree):
                yield f"{name}:{getattr(node, 'lineno', 0)}", node

    def test_files(self):
        self.assertIn("__init__.py", self.files)
        for path in package_files():
            self.assertEqual(path.parent, PACKAGE)
            self.assertRegex(path.name, r"\A(__init__|__main__|[a-z][a-z0-9_]*)\.py\Z")
            self.assertNotIn(path.stem, dir(builtins))

    def test_signs_and_sizes(self):
        for name, text in self.files.items():
            self.assertRegex(text, r"\A[\n -~]*\Z", name)
            self.assertLessEqual(len(text.splitlines()), 400, name)
            self.assertLessEqual(max(map(len, text.splitlines()), default=0), 120, name)
            self.assertIsNone(UNUSED_WORDS.search(text), name)

    def test_functions_are_short_and_plain(self):
        for where, node in self.each_node():
            if isinstance(node, ast.FunctionDef):
                self.assertLessEqual(node.end_lineno - node.lineno + 1, 40, where)
                self.assertEqual(node.decorator_list, [], where)
                given = node.args
                self.assertEqual([given.vararg, given.kwarg, given.kwonlyargs, given.posonlyargs],
                                 [None, None, [], []], where)

    def test_only_the_small_part_is_used(self):
        for where, node in self.each_node():
            self.assertIsInstance(node, USED_NODES, where)
            self.assertNotIsInstance(node, (ast.Div, ast.MatMult), where)
            if isinstance(node, ast.Assign):
                self.assertEqual(len(node.targets), 1, where)
            if isinstance(node, (ast.For, ast.While)):
                self.assertEqual(node.orelse, [], where)
            if isinstance(node, ast.Try):
                self.assertEqual(node.finalbody, [], where)
            if isinstance(node, ast.ListComp):
                self.assertEqual(len(node.generators), 1, where)
                self.assertLessEqual(len(node.generators[0].ifs), 1, where)
            if isinstance(node, ast.Constant):
                self.assertIn(type(node.value), (int, str, bool, type(None)), where)
            if isinstance(node, ast.Constant) and isinstance(node.value, str):
                self.assertNotIn("%", node.value, where)

    def test_is_beside_none_true_and_false_alone(self):
        for where, node in self.each_node():
            if isinstance(node, ast.Compare) and any(isinstance(op, (ast.Is, ast.IsNot)) for op in node.ops):
                self.assertTrue(any(isinstance(part, ast.Constant) and part.value in (None, True, False)
                                    for part in [node.left, *node.comparators]), where)

    def test_imports(self):
        modules = {"beadbodies." + name[:-3] for name in self.files}
        self.assertFalse([node for node in ast.walk(self.trees["__init__.py"]) if isinstance(node, ast.ImportFrom)])
        for where, node in self.each_node():
            if isinstance(node, ast.ImportFrom):
                self.assertEqual(node.level, 0, where)
                self.assertIn(node.module, modules, where)
                self.assertNotIn("*", [name.name for name in node.names], where)

    def test_names(self):
        for name, tree in self.trees.items():
            for bound, row in bound_names(tree):
                if bound not in UNDERSCORED:
                    self.assertRegex(bound, r"\A[A-Za-z][A-Za-z0-9_]*\Z", f"{name}:{row}")
                    self.assertNotIn(bound, dir(builtins), f"{name}:{row}")
                    self.assertNotIn(bound, UNUSED_NAMES, f"{name}:{row}")

    def test_names_of_pythons_own(self):
        for where, node in self.each_node():
            if isinstance(node, ast.Name) and node.id in dir(builtins):
                self.assertIn(node.id, OWN_NAMES, where)
            if isinstance(node, ast.Name):
                self.assertNotIn(node.id, UNUSED_NAMES, where)

    def test_methods(self):
        known = OWN_METHODS | own_methods(self.trees.values())
        for where, node in self.each_node():
            if isinstance(node, ast.Call) and isinstance(node.func, ast.Attribute):
                self.assertIn(node.func.attr, known, where)

    def test_each_name_once_at_a_files_top(self):
        for name, tree in self.trees.items():
            tops = [part.name for part in tree.body if isinstance(part, (ast.FunctionDef, ast.ClassDef))]
            tops += [part.targets[0].id for part in tree.body if isinstance(part, ast.Assign)]
            tops += [one.name for part in tree.body if isinstance(part, ast.ImportFrom) for one in part.names]
            self.assertEqual(sorted(tops), sorted(set(tops)), name)

    def test_no_local_is_called_like_an_import_or_a_class(self):
        for name, tree in self.trees.items():
            taken = {one.name for part in tree.body if isinstance(part, ast.ImportFrom) for one in part.names}
            taken |= {part.name for part in tree.body if isinstance(part, ast.ClassDef)}
            for node in ast.walk(tree):
                local = node.arg if isinstance(node, ast.arg) else getattr(node, "id", None)
                if isinstance(node, ast.arg) or isinstance(getattr(node, "ctx", None), ast.Store):
                    self.assertNotIn(local, taken, f"{name}:{node.lineno}")

    def test_imports_come_from_the_file_that_defines_the_name_and_never_in_a_ring(self):
        drawn = {}
        for name, tree in self.trees.items():
            imports = [part for part in tree.body if isinstance(part, ast.ImportFrom)]
            drawn[name] = {part.module.split(".")[1] + ".py" for part in imports}
            for part in imports:
                defined = {bound for bound, row in bound_names(self.trees[part.module.split(".")[1] + ".py"])}
                self.assertLessEqual({one.name for one in part.names}, defined, name)
                self.assertEqual({one.asname for one in part.names}, {None}, name)
        while drawn:
            free = [name for name in drawn if not drawn[name] & set(drawn)]
            self.assertTrue(free, drawn)
            drawn = {name: drawn[name] for name in drawn if name not in free}

    def test_no_annotations(self):
        for where, node in self.each_node():
            if isinstance(node, (ast.FunctionDef, ast.arg)):
                self.assertIsNone(getattr(node, "returns", None), where)
                self.assertIsNone(getattr(node, "annotation", None), where)

    def test_methods_and_values_of_objects(self):
        methods = own_methods(self.trees.values()) - UNDERSCORED
        values = own_values(self.trees.values())
        self.assertEqual(methods & values, set())
        self.assertEqual((methods | values) & PYTHONS_OWN, set())

    def test_walked_on_the_spot(self):
        for name, tree in self.trees.items():
            places = list(walked_places(tree))
            for node in ast.walk(tree):
                if called_name(node) in WALKED:
                    self.assertIn(node, places, f"{name}:{node.lineno}")

    def test_own_errors_alone_are_taken(self):
        own = {node.name for where, node in self.each_node() if isinstance(node, ast.ClassDef)}
        for where, node in self.each_node():
            if isinstance(node, ast.ExceptHandler):
                self.assertIn(node.type.id, own, where)

    def test_nothing_but_plain_values_at_a_files_top(self):
        for name, tree in self.trees.items():
            for part in tree.body[1:]:
                self.assertIsInstance(part, (ast.ImportFrom, ast.FunctionDef, ast.ClassDef, ast.Assign), name)
                if isinstance(part, ast.Assign):
                    ast.literal_eval(part.value)


if __name__ == "__main__":
    unittest.main()
