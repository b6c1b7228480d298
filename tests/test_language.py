"""The form of the package: what of LANGUAGE.md a machine can see with little effort."""

import ast
import builtins
import io
import pathlib
import re
import tokenize
import unittest

FOLDER = pathlib.Path(__file__).resolve().parent.parent / "sameround"
FILES = sorted(FOLDER.glob("*.py"))
LIBRARY = {
    "heapq": {"heappush", "heappop", "heapify", "heapreplace", "heappushpop"},
    "math": {"gcd", "lcm", "isqrt", "comb", "perm", "factorial"},
    "itertools": {"product", "combinations", "permutations", "chain", "accumulate", "pairwise",
                  "islice", "zip_longest"},
    "collections": {"defaultdict"},
}
BUILTINS = set("""
    len range enumerate zip min max sum abs sorted reversed int str bool bytes list tuple dict set
    isinstance ord repr any all divmod pow getattr hasattr setattr iter next map super property
    staticmethod classmethod Exception ValueError TypeError KeyError IndexError LookupError
    ZeroDivisionError ArithmeticError OverflowError RuntimeError NotImplementedError AttributeError
    StopIteration NotImplemented
""".split())
METHODS = set("""
    append clear copy count endswith extend find get index insert isalnum isalpha isdigit islower
    isspace isupper items join keys ljust lower lstrip partition pop remove replace reverse rfind
    rjust rpartition rsplit rstrip setdefault split splitlines startswith strip update upper values
    zfill bit_length title capitalize swapcase casefold center expandtabs removeprefix removesuffix
    rindex isascii isdecimal isnumeric istitle isidentifier isprintable translate sort add discard
    format encode hex __init__
""".split())
BUILTIN_NAMES = {name for name in dir(builtins) if not name.startswith("_")}
OWN_TWO_UNDERSCORES = re.compile(
    r"__(init|eq|repr|str|len|enter|exit|call|iter|lt|le|gt|ge|ne|bool|contains|getitem|setitem|neg|pos"
    r"|invert|abs|[ri]?(add|sub|mul|floordiv|mod|and|or|xor|lshift|rshift)|pow|ipow)__")
BARRED_NAMES = set("""
    register mro elements open input law version_info with_traceback add_note attrgetter breakpoint
    compile copyright credits delattr dir eval exec exit gc globals help id importlib license locals
    methodcaller os quit type vars sys
""".split())
BARRED_WORDS = re.compile(
    r"\b(typing|typing_extensions|enum|Enum|IntEnum|StrEnum|Flag|IntFlag|Generic|Protocol|ABC"
    r"|ABCMeta|namedtuple|NamedTuple|TypedDict|TYPE_CHECKING|abstractmethod|_wall|_WallAttr)\b"
    r"|dataclass|overload|contextmanager")
STATEMENTS = (
    ast.Assign, ast.AugAssign, ast.AnnAssign, ast.If, ast.While, ast.For, ast.Return, ast.Break,
    ast.Continue, ast.Pass, ast.Raise, ast.Assert, ast.Delete, ast.Nonlocal, ast.Match, ast.With,
    ast.Try, ast.Expr, ast.FunctionDef, ast.ClassDef, ast.ImportFrom)


def parsed(path):
    return ast.parse(path.read_text())


def nodes(kind):
    """All nodes of a kind, each with the file in which it stands."""
    return [(path.name, node) for path in FILES for node in ast.walk(parsed(path))
            if isinstance(node, kind)]


def places(found):
    return [f"{name}:{node.lineno}" for name, node in found]


def bound_at_top(tree):
    """The names that the rows at module level bind, in order."""
    names = []
    for row in tree.body:
        if isinstance(row, (ast.FunctionDef, ast.ClassDef)):
            names.append(row.name)
        elif isinstance(row, ast.ImportFrom):
            names.extend([part.name for part in row.names])
        elif isinstance(row, ast.Assign):
            names.append(row.targets[0].id)
    return names


class Files(unittest.TestCase):
    def test_the_folder_holds_plain_files_alone(self):
        self.assertIn("__init__.py", [path.name for path in FILES])
        for path in FOLDER.iterdir():
            if path.name != "__pycache__":
                self.assertRegex(path.name, r"^([a-z][a-z0-9_]*|__init__)\.py$")
                self.assertNotIn(path.stem, BUILTIN_NAMES)

    def test_sizes_and_characters(self):
        for path in FILES:
            rows = path.read_text().split("\n")
            self.assertLessEqual(len(rows), 400, path.name)
            for at, row in enumerate(rows, 1):
                self.assertRegex(row, r"^[ -~]{0,120}$", f"{path.name}:{at}")

    def test_functions_have_at_most_forty_lines(self):
        long = [(name, node) for name, node in nodes(ast.FunctionDef)
                if node.end_lineno - node.lineno >= 40]
        self.assertEqual(places(long), [])

    def test_barred_words(self):
        for path in FILES:
            docs = [node.body[0].value.lineno for node in ast.walk(parsed(path))
                    if isinstance(node, (ast.Module, ast.ClassDef, ast.FunctionDef))
                    and ast.get_docstring(node) is not None]
            for part in tokenize.generate_tokens(io.StringIO(path.read_text()).readline):
                if part.type != tokenize.COMMENT and part.start[0] not in docs:
                    self.assertIsNone(BARRED_WORDS.search(part.string), f"{path.name}:{part.start}")


class Imports(unittest.TestCase):
    def test_each_name_comes_from_the_file_that_defines_it(self):
        for name, node in nodes((ast.Import, ast.ImportFrom)):
            with self.subTest(f"{name}:{node.lineno}"):
                self.assertIsInstance(node, ast.ImportFrom)
                self.assertEqual(node.level, 0)
                named = {part.name for part in node.names}
                self.assertEqual([part.asname for part in node.names], [None] * len(node.names))
                if node.module in LIBRARY:
                    self.assertLessEqual(named, LIBRARY[node.module])
                else:
                    self.assertRegex(node.module, r"^sameround\.[a-z_0-9]+$")
                    tree = parsed(FOLDER / f"{node.module.split('.')[1]}.py")
                    tree.body = [row for row in tree.body if not isinstance(row, ast.ImportFrom)]
                    self.assertLessEqual(named, set(bound_at_top(tree)))

    def test_no_two_files_import_from_each_other(self):
        ahead = {path.stem: {node.module.split(".")[-1] for node in parsed(path).body
                             if isinstance(node, ast.ImportFrom)} for path in FILES}
        while True:
            free = [name for name in ahead if not ahead[name] & set(ahead)]
            if not free:
                break
            for name in free:
                del ahead[name]
        self.assertEqual(ahead, {})


class Rows(unittest.TestCase):
    def test_module_level(self):
        for path in FILES:
            tree = parsed(path)
            names = bound_at_top(tree)
            self.assertEqual(len(names), len(set(names)), path.name)
            self.assertIsNotNone(ast.get_docstring(tree), path.name)
            late = False
            for row in tree.body[1:]:
                late = late or not isinstance(row, ast.ImportFrom)
                self.assertFalse(late and isinstance(row, ast.ImportFrom), path.name)
                if isinstance(row, ast.Assign):
                    self.assertEqual([target.__class__ for target in row.targets], [ast.Name])
                else:
                    self.assertIsInstance(row, (ast.FunctionDef, ast.ClassDef, ast.ImportFrom))

    def test_statements(self):
        others = [(name, node) for name, node in nodes(ast.stmt)
                  if not isinstance(node, STATEMENTS)]
        self.assertEqual(places(others), [])

    def test_no_floats_no_generator_expressions_no_percent_signs(self):
        others = [(name, node) for name, node in nodes((ast.Constant, ast.BinOp, ast.GeneratorExp))
                  if isinstance(node, ast.GeneratorExp)
                  or isinstance(node, ast.BinOp) and isinstance(node.op, (ast.Div, ast.MatMult))
                  or isinstance(node, ast.Constant) and isinstance(node.value, (float, complex))
                  or isinstance(node, ast.Constant) and "%" in str(node.value)]
        self.assertEqual(places(others), [])

    def test_is_stands_beside_none_and_flags(self):
        others = [(name, node) for name, node in nodes(ast.Compare)
                  if any(isinstance(sign, (ast.Is, ast.IsNot)) for sign in node.ops)
                  and not isinstance(node.comparators[0], ast.Constant)]
        self.assertEqual(places(others), [])

    def test_handlers_name_narrow_errors(self):
        broad = {"Exception", "TypeError", "ArithmeticError", "OverflowError", "RuntimeError",
                 "NotImplementedError", "AttributeError"}
        others = [(name, node) for name, node in nodes(ast.ExceptHandler)
                  if node.type is None
                  or broad & {part.id for part in ast.walk(node.type) if isinstance(part, ast.Name)}]
        self.assertEqual(places(others), [])


    def test_stars_in_calls_stand_ahead_of_names(self):
        others = [(name, part) for name, node in nodes(ast.Call) for part in node.args
                  if isinstance(part, ast.Starred) and not isinstance(part.value, (ast.Name, ast.Attribute))]
        self.assertEqual(places(others), [])

    def test_super_is_called_for_a_method_at_once(self):
        taken = [node.func.value for _, node in nodes(ast.Call) if isinstance(node.func, ast.Attribute)]
        others = [(name, node) for name, node in nodes(ast.Call)
                  if isinstance(node.func, ast.Name) and node.func.id == "super"
                  and places([(name, node)]) not in [places([(name, other)]) for other in taken]]
        self.assertEqual(places(others), [])


class Names(unittest.TestCase):
    def test_builtins_that_are_read(self):
        others = [(name, node) for name, node in nodes(ast.Name)
                  if node.id in BUILTIN_NAMES - BUILTINS]
        self.assertEqual(places(others), [])

    def test_no_name_is_a_builtins_or_barred(self):
        given = [(name, node, node.id) for name, node in nodes(ast.Name)
                 if not isinstance(node.ctx, ast.Load)]
        given += [(name, node, node.arg) for name, node in nodes(ast.arg)]
        given += [(name, node, node.name) for name, node in nodes((ast.FunctionDef, ast.ClassDef))]
        for name, node, word in given:
            with self.subTest(f"{name}:{node.lineno}"):
                self.assertNotIn(word, BUILTIN_NAMES)
                self.assertNotIn(word, BARRED_NAMES)
                if word.startswith("__"):
                    self.assertRegex(word, OWN_TWO_UNDERSCORES)

    def test_no_local_name_is_an_imported_one_or_a_class(self):
        for path in FILES:
            tree = parsed(path)
            taken = {row.name for row in tree.body if isinstance(row, ast.ClassDef)}
            for row in tree.body:
                if isinstance(row, ast.ImportFrom):
                    taken |= {part.name for part in row.names}
            local = {node.id for node in ast.walk(tree)
                     if isinstance(node, ast.Name) and not isinstance(node.ctx, ast.Load)}
            local |= {node.arg for node in ast.walk(tree) if isinstance(node, ast.arg)}
            self.assertEqual(taken & local, set(), path.name)

    def test_methods_that_are_called(self):
        own = {row.name for _, node in nodes(ast.ClassDef) for row in node.body
               if isinstance(row, ast.FunctionDef)}
        others = [(name, node) for name, node in nodes(ast.Call)
                  if isinstance(node.func, ast.Attribute)
                  and node.func.attr not in METHODS | own]
        self.assertEqual(places(others), [])


if __name__ == "__main__":
    unittest.main()
