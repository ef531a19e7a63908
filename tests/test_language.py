"""The files of the package keep to the subset of Python for this program, as far as a short check can tell.

The numbers are those of the rules of LANGUAGE.md.
"""

import ast
import builtins
import pathlib
import re
import unittest

import reticle

FOLDER = pathlib.Path(reticle.__file__).parent

FILES = sorted(path for path in FOLDER.iterdir() if path.name != "__pycache__")

BUILTINS = set(
    "len range enumerate zip min max sum abs sorted reversed int str bool bytes list tuple dict set frozenset "
    "isinstance ord repr any all divmod pow super property staticmethod classmethod "
    "Exception ValueError TypeError KeyError IndexError LookupError ZeroDivisionError ArithmeticError "
    "OverflowError RuntimeError NotImplementedError AttributeError StopIteration NotImplemented".split()
)

BUILTIN_METHODS = set(
    "append clear copy count endswith extend find get index insert isalnum isalpha isdigit islower isspace isupper "
    "items join keys ljust lower lstrip partition pop remove replace reverse rfind rjust rpartition rsplit rstrip "
    "setdefault split splitlines startswith strip update upper values zfill bit_length add discard".split()
)

SPECIAL_METHODS = {"__init__", "__eq__", "__repr__", "__str__", "__len__"}

BARRED_NAMES = set(
    "register mro elements open input law version_info with_traceback add_note attrgetter breakpoint builtins compile "
    "copyright credits delattr dir eval exec exit gc getattr globals hasattr help id importlib license locals "
    "methodcaller os quit setattr type vars sys format format_map".split()
)

BARRED_WORDS = re.compile(
    r"\b(type|typing|typing_extensions|enum|Enum|IntEnum|StrEnum|Flag|IntFlag|Generic|Protocol|ABC|ABCMeta|namedtuple"
    r"|NamedTuple|TypedDict|TYPE_CHECKING|abstractmethod)\b|dataclass|overload|contextmanager"
)

STATEMENTS = (
    ast.Assign, ast.AugAssign, ast.If, ast.While, ast.For, ast.Return, ast.Break, ast.Continue, ast.Pass, ast.Raise,
    ast.Assert, ast.Delete, ast.Expr, ast.FunctionDef, ast.ClassDef, ast.ImportFrom,
)

NOT_USED = (
    ast.Div, ast.MatMult, ast.GeneratorExp, ast.Set, ast.SetComp, ast.Await, ast.Yield, ast.YieldFrom, ast.NamedExpr,
    ast.Lambda,
)

# Comments are not in the tree of a file, and docstrings are not among these.
TREES = {path.stem: ast.parse(path.read_text(encoding="ascii")) for path in FILES}


def functions_of(tree):
    return [node for node in ast.walk(tree) if isinstance(node, ast.FunctionDef)]


def docstrings_of(tree):
    """The constants of a file that are docstrings."""
    owners = [tree] + [node for node in ast.walk(tree) if isinstance(node, (ast.FunctionDef, ast.ClassDef))]
    first = [owner.body[0] for owner in owners if owner.body]
    return [node.value for node in first if isinstance(node, ast.Expr) and isinstance(node.value, ast.Constant)]


def is_plain(node, functions):
    """A value that may stand at module level: constants, and lists, tuples and dicts of these and of functions."""
    if isinstance(node, (ast.Tuple, ast.List)):
        return all(is_plain(part, functions) for part in node.elts)
    if isinstance(node, ast.UnaryOp):
        return isinstance(node.op, ast.USub) and isinstance(node.operand, ast.Constant)
    if isinstance(node, ast.Dict):
        return all(is_plain(part, functions) for part in node.keys + node.values)
    return isinstance(node, ast.Constant) or (isinstance(node, ast.Name) and node.id in functions)


def bound_names(function):
    """The parameters and local names of a function."""
    arguments = function.args
    names = [part.arg for part in arguments.posonlyargs + arguments.args + arguments.kwonlyargs]
    names.extend(node.id for node in ast.walk(function) if isinstance(node, ast.Name) and isinstance(node.ctx, ast.Store))
    return names


class Files(unittest.TestCase):
    def test_names_and_characters(self):
        for path in FILES:
            self.assertRegex(path.name, r"\A(__init__|[a-z][a-z0-9_]*)\.py\Z", "L1, L14")
            self.assertRegex(path.read_bytes().decode("ascii"), r"\A[ -~\n]*\Z", f"L14: {path.name}")
        self.assertLessEqual(len(FILES), 100, "L14")

    def test_sizes(self):
        for path in FILES:
            lines = path.read_text(encoding="ascii").split("\n")
            self.assertLessEqual(len(lines), 400, f"L10: {path.name}")
            self.assertLessEqual(max(len(line) for line in lines), 120, f"L10: {path.name}")
            for function in functions_of(TREES[path.stem]):
                self.assertLessEqual(function.end_lineno - function.lineno + 1, 40, f"L10: {function.name}")

    def test_words(self):
        for file, tree in TREES.items():
            docstrings = docstrings_of(tree)
            for node in ast.walk(tree):
                if isinstance(node, ast.Constant) and isinstance(node.value, str) and node not in docstrings:
                    self.assertNotIn("%", node.value, f"L27: {file}")
                    self.assertIsNone(BARRED_WORDS.search(node.value), f"L17: {file}")
            self.assertNotIn("%", "".join(node.value for node in docstrings), f"L27: {file}")
            self.assertNotRegex((FOLDER / f"{file}.py").read_text(), r"_wall\b|_WallAttr", f"L12: {file}")


class Modules(unittest.TestCase):
    def test_imports(self):
        known = {}
        for file, tree in TREES.items():
            kinds = (ast.FunctionDef, ast.ClassDef)
            known[file] = {node.name for node in tree.body if isinstance(node, kinds)}
            known[file] |= {node.targets[0].id for node in tree.body if isinstance(node, ast.Assign)}
        for file, tree in TREES.items():
            for node in ast.walk(tree):
                self.assertNotIsInstance(node, ast.Import, f"L16: {file}")
                if isinstance(node, ast.ImportFrom):
                    self.assertIn(node, tree.body, f"L2: {file}")
                    self.assertRegex(node.module, r"\Areticle\.[a-z]+\Z", f"L2: {file}")
                    for part in node.names:
                        self.assertIsNone(part.asname, f"L2: {file}")
                        self.assertIn(part.name, known[node.module.split(".")[1]], f"L16: {file}")

    def test_no_two_files_import_from_each_other(self):
        left = {
            file: {node.module.split(".")[1] for node in tree.body if isinstance(node, ast.ImportFrom)}
            for file, tree in TREES.items()
        }
        while left:
            free = [file for file, needed in left.items() if not needed & set(left)]
            self.assertTrue(free, f"L16: {sorted(left)}")
            for file in free:
                del left[file]

    def test_what_stands_at_module_level(self):
        for file, tree in TREES.items():
            functions, bound = set(), []
            for node in tree.body[1:]:
                self.assertIsInstance(node, (ast.ImportFrom, ast.FunctionDef, ast.ClassDef, ast.Assign), f"L3: {file}")
                if isinstance(node, ast.Assign):
                    self.assertTrue(is_plain(node.value, functions), f"L3: {file}: {node.lineno}")
                    bound.append(node.targets[0].id)
                elif isinstance(node, ast.ImportFrom):
                    bound.extend(part.name for part in node.names)
                else:
                    functions.add(node.name)
                    bound.append(node.name)
            self.assertEqual(len(bound), len(set(bound)), f"L15: {file}")
            self.assertIsNotNone(ast.get_docstring(tree), file)


class Names(unittest.TestCase):
    def test_plain_names(self):
        for file, tree in TREES.items():
            for node in ast.walk(tree):
                for name in [getattr(node, field, None) for field in ("id", "attr", "arg", "name")]:
                    if isinstance(name, str) and name not in SPECIAL_METHODS:
                        self.assertRegex(name, r"\A(_|_?[A-Za-z][A-Za-z0-9_]*)\Z", f"L12: {file}")
                        self.assertNotIn(name, BARRED_NAMES, f"L17, L26: {file}")

    def test_builtins(self):
        for file, tree in TREES.items():
            for node in ast.walk(tree):
                if isinstance(node, ast.Name) and hasattr(builtins, node.id):
                    self.assertIn(node.id, BUILTINS, f"L8: {file}: {node.lineno}")

    def test_local_names(self):
        for file, tree in TREES.items():
            imports = [part.name for node in tree.body if isinstance(node, ast.ImportFrom) for part in node.names]
            classes = [node.name for node in tree.body if isinstance(node, ast.ClassDef)]
            for function in functions_of(tree):
                for name in bound_names(function):
                    self.assertNotIn(name, imports + classes, f"L15: {file}: {function.name}")
                    self.assertFalse(hasattr(builtins, name), f"L15: {file}: {function.name}: {name}")

    def test_methods_and_attributes(self):
        methods, stored, read = set(), set(), set()
        for node in [node for tree in TREES.values() for node in ast.walk(tree)]:
            if isinstance(node, ast.ClassDef):
                methods |= {part.name for part in node.body if isinstance(part, ast.FunctionDef)}
                own = {part.attr for part in ast.walk(node) if isinstance(part, ast.Attribute)
                       and isinstance(part.ctx, ast.Store)}
                self.assertFalse(own & {part.name for part in node.body if isinstance(part, ast.FunctionDef)}, "L18")
            elif isinstance(node, ast.Attribute):
                (stored if isinstance(node.ctx, ast.Store) else read).add(node.attr)
        self.assertLessEqual(read, methods | stored | BUILTIN_METHODS, "L18, L25")


class Statements(unittest.TestCase):
    def test_kinds(self):
        for file, tree in TREES.items():
            for node in ast.walk(tree):
                if isinstance(node, ast.stmt):
                    self.assertIsInstance(node, STATEMENTS, f"L6: {file}: {node.lineno}")
                self.assertNotIsInstance(node, NOT_USED, f"L6, L7, L24: {file}")
                if isinstance(node, ast.Constant):
                    self.assertNotIsInstance(node.value, (float, complex), f"L7: {file}: {node.lineno}")

    def test_identity(self):
        for file, tree in TREES.items():
            for node in ast.walk(tree):
                if isinstance(node, ast.Compare) and any(isinstance(sign, (ast.Is, ast.IsNot)) for sign in node.ops):
                    self.assertIsInstance(node.comparators[0], ast.Constant, f"L20: {file}: {node.lineno}")

    def test_decorators_and_special_methods(self):
        for file, tree in TREES.items():
            for node in ast.walk(tree):
                if isinstance(node, ast.FunctionDef):
                    names = [part.id for part in node.decorator_list]
                    self.assertIn(names, [[], ["property"]], f"L4: {file}: {node.name}")
                    self.assertTrue(not node.name.startswith("__") or node.name in SPECIAL_METHODS, f"L5: {file}")
                elif isinstance(node, ast.ClassDef):
                    self.assertEqual(node.decorator_list, [], f"L5: {file}")

    def test_sets_and_sorting(self):
        for file, tree in TREES.items():
            calls = [node for node in ast.walk(tree) if isinstance(node, ast.Call)]
            inner = [part for node in calls if isinstance(node.func, ast.Name) and node.func.id in ("sorted", "len")
                     for part in node.args]
            for node in calls:
                if isinstance(node.func, ast.Name) and node.func.id == "set":
                    self.assertIn(node, inner, f"L24: {file}: {node.lineno}")
                if isinstance(node.func, ast.Attribute):
                    self.assertNotEqual(node.func.attr, "sort", f"L25: {file}: {node.lineno}")


if __name__ == "__main__":
    unittest.main()
