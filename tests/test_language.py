"""The form of the package's files: the part of Python that they keep to."""

import ast
import builtins
import pathlib
import re
import unittest

import wordfields

PACKAGE = pathlib.Path(wordfields.__file__).parent

OWN_NAMES = set("""len range enumerate zip min max sum abs sorted reversed int str bool list tuple dict set frozenset
    isinstance ord repr any all divmod Exception ValueError TypeError KeyError IndexError LookupError ZeroDivisionError
    ArithmeticError OverflowError RuntimeError NotImplementedError AttributeError StopIteration""".split())

METHODS = set("""append clear copy count endswith extend find get index insert isalnum isalpha isdigit islower isspace
    isupper items join keys ljust lower lstrip partition pop remove replace reverse rfind rjust rpartition rsplit rstrip
    setdefault split splitlines startswith strip update upper values zfill bit_length""".split())

NODES = set("""Module FunctionDef arguments arg ClassDef ImportFrom alias Assign AugAssign Expr If While For Return Break
    Continue Pass Raise Try ExceptHandler Call Attribute Subscript Slice Name Load Store Constant List Tuple Dict
    ListComp comprehension BinOp UnaryOp BoolOp Compare IfExp Lambda JoinedStr FormattedValue keyword
    Add Sub Mult FloorDiv Mod Pow LShift RShift BitOr BitXor BitAnd Invert Not UAdd USub And Or
    Eq NotEq Lt LtE Gt GtE Is IsNot In NotIn""".split())

PLAIN = (ast.Constant, ast.Tuple, ast.List, ast.Dict, ast.UnaryOp, ast.USub, ast.Load)

WORDS_NOWHERE = re.compile(r"\b(type|typing|typing_extensions|enum|Enum|IntEnum|StrEnum|Flag|IntFlag|Generic|Protocol|ABC"
                           r"|ABCMeta|namedtuple|NamedTuple|TypedDict|TYPE_CHECKING|abstractmethod)\b"
                           r"|dataclass|overload|contextmanager")

NAMES_NOWHERE = set("""register mro elements open input version_info with_traceback add_note format format_map chr print
    attrgetter breakpoint builtins compile copyright credits delattr dir eval exec exit gc getattr globals hasattr help
    id importlib license locals methodcaller os quit setattr super type vars sys""".split())

BUILTINS = set(dir(builtins))


def files():
    return sorted(path for path in PACKAGE.rglob("*") if "__pycache__" not in path.parts)


def trees():
    return [(path, ast.parse(path.read_text(encoding="ascii"))) for path in files() if path.suffix == ".py"]


def nodes(*kinds):
    return [(path, node) for path, tree in trees() for node in ast.walk(tree) if isinstance(node, kinds)]


def bound_names(tree):
    """Every name that a tree binds or takes as a parameter."""
    names = []
    for node in ast.walk(tree):
        if isinstance(node, ast.Name) and isinstance(node.ctx, ast.Store):
            names.append(node.id)
        elif isinstance(node, ast.arg):
            names.append(node.arg)
        elif isinstance(node, (ast.FunctionDef, ast.ClassDef)):
            names.append(node.name)
    return names


class Files(unittest.TestCase):
    def test_names(self):
        self.assertIn(PACKAGE / "__init__.py", files())
        for path in files():
            self.assertRegex(path.name, r"^([a-z][a-z0-9_]*|__init__)\.py$")
            self.assertNotIn(path.stem, BUILTINS)

    def test_signs_and_sizes(self):
        for path in files():
            text = path.read_bytes().decode("ascii")
            self.assertRegex(text, r"^[ -~\n]*\Z")
            self.assertLessEqual(text.count("\n"), 400)
            self.assertLessEqual(max([len(line) for line in text.split("\n")]), 120, path)
            self.assertIsNone(WORDS_NOWHERE.search(text), path)

    def test_functions_are_short(self):
        for path, node in nodes(ast.FunctionDef):
            self.assertLessEqual(node.end_lineno - node.lineno + 1, 40, (path, node.name))


class Tops(unittest.TestCase):
    def test_only_defs_and_plain_values(self):
        for path, tree in trees():
            for node in tree.body:
                if isinstance(node, ast.Assign):
                    for part in ast.walk(node.value):
                        self.assertIsInstance(part, PLAIN, (path, node.lineno))
                else:
                    self.assertTrue(isinstance(node, (ast.ImportFrom, ast.FunctionDef, ast.ClassDef))
                                    or node is tree.body[0], (path, node.lineno))

    def test_each_name_once(self):
        for path, tree in trees():
            names = [alias.name for node in tree.body if isinstance(node, ast.ImportFrom) for alias in node.names]
            names += [node.name for node in tree.body if isinstance(node, (ast.FunctionDef, ast.ClassDef))]
            names += [node.targets[0].id for node in tree.body if isinstance(node, ast.Assign)]
            self.assertEqual(sorted(names), sorted(set(names)), path)

    def test_imports_are_of_the_package(self):
        defined = {}
        for path, tree in trees():
            defined["wordfields." + path.stem] = bound_names(tree)
        for path, node in nodes(ast.ImportFrom):
            for alias in node.names:
                self.assertIsNone(alias.asname)
                self.assertIn(alias.name, defined[node.module], path)

    def test_no_two_files_draw_from_one_another(self):
        drawn = {"wordfields." + path.stem: [node.module for node in tree.body if isinstance(node, ast.ImportFrom)]
                 for path, tree in trees()}
        while drawn:
            free = [name for name in drawn if not [one for one in drawn[name] if one in drawn]]
            self.assertTrue(free, drawn)
            drawn = {name: drawn[name] for name in drawn if name not in free}

    def test_every_import_is_used(self):
        for path, tree in trees():
            used = [node.id for node in ast.walk(tree) if isinstance(node, ast.Name)]
            for node in tree.body:
                for alias in node.names if isinstance(node, ast.ImportFrom) else []:
                    self.assertIn(alias.name, used, path)


class Forms(unittest.TestCase):
    def test_nodes(self):
        for path, node in nodes(ast.AST):
            self.assertIn(node.__class__.__name__, NODES, (path, getattr(node, "lineno", None)))

    def test_values(self):
        for path, node in nodes(ast.Constant):
            self.assertTrue(node.value is None or isinstance(node.value, (bool, int, str)), (path, node.lineno))

    def test_functions(self):
        for path, node in nodes(ast.FunctionDef):
            self.assertEqual(node.decorator_list, [])
            self.assertTrue(node.args.vararg is None and node.args.kwarg is None and not node.args.kwonlyargs)

    def test_assignments_and_loops(self):
        for path, node in nodes(ast.Assign):
            self.assertEqual(len(node.targets), 1, (path, node.lineno))
            self.assertNotIsInstance(node.targets[0], (ast.Tuple, ast.List), (path, node.lineno))
        for path, node in nodes(ast.For, ast.While):
            self.assertEqual(node.orelse, [])

    def test_comprehensions(self):
        for path, node in nodes(ast.ListComp):
            self.assertEqual(len(node.generators), 1)
            self.assertLessEqual(len(node.generators[0].ifs), 1)

    def test_powers_have_a_written_exponent(self):
        for path, node in nodes(ast.BinOp):
            if isinstance(node.op, ast.Pow):
                self.assertIsInstance(node.right, ast.Constant, (path, node.lineno))

    def test_is_stands_beside_none_true_and_false(self):
        for path, node in nodes(ast.Compare):
            for operator, right in zip(node.ops, node.comparators):
                if isinstance(operator, (ast.Is, ast.IsNot)):
                    self.assertTrue(isinstance(right, ast.Constant) and right.value in (None, True, False))

    def test_walked_on_the_spot(self):
        walked = ("range", "zip", "enumerate", "reversed")
        right = set()
        for path, node in nodes(ast.For, ast.comprehension):
            right.add((path, ast.dump(node.iter)))
        for path, node in nodes(ast.Call):
            if isinstance(node.func, ast.Name) and node.func.id in walked:
                self.assertIn((path, ast.dump(node)), right)


class Names(unittest.TestCase):
    def test_python_s_own(self):
        for path, tree in trees():
            bound = bound_names(tree)
            imported = [alias.name for node in tree.body if isinstance(node, ast.ImportFrom) for alias in node.names]
            for node in ast.walk(tree):
                if isinstance(node, ast.Name) and isinstance(node.ctx, ast.Load):
                    self.assertIn(node.id, OWN_NAMES | set(bound) | set(imported), (path, node.lineno))

    def test_bound_names(self):
        for path, tree in trees():
            imported = [alias.name for node in tree.body if isinstance(node, ast.ImportFrom) for alias in node.names]
            classes = [node.name for node in tree.body if isinstance(node, ast.ClassDef)]
            for name in bound_names(tree):
                if name == "__init__":
                    continue
                self.assertRegex(name, r"^[A-Za-z][A-Za-z0-9_]*$", path)
                self.assertNotIn(name, BUILTINS | NAMES_NOWHERE | set(imported), path)
            inner = [node.id for node in ast.walk(tree) if isinstance(node, ast.Name)
                     and isinstance(node.ctx, ast.Store)]
            self.assertEqual([name for name in inner if name in classes], [])

    def test_methods_and_values(self):
        methods = [part.name for path, node in nodes(ast.ClassDef) for part in node.body
                   if isinstance(part, ast.FunctionDef)]
        stored = [node.attr for path, node in nodes(ast.Attribute) if isinstance(node.ctx, ast.Store)]
        pythons = [name for one in ("", 0, [], {}, set(), b"") for name in dir(one)]
        self.assertEqual([name for name in stored if name in methods or name in pythons], [])
        self.assertEqual([name for name in methods if name in pythons and name != "__init__"], [])
        for path, node in nodes(ast.Attribute):
            self.assertIn(node.attr, METHODS | set(methods) | set(stored), (path, node.lineno))


if __name__ == "__main__":
    unittest.main()
