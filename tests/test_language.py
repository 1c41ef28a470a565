"""The rules of the language that can be seen from the text of the package alone."""

import ast
import builtins
import pathlib
import re
import unittest

FOLDER = pathlib.Path(__file__).resolve().parent.parent / "nestsay"
FILES = sorted(path for path in FOLDER.rglob("*") if "__pycache__" not in path.parts)
TREES = {path.stem: ast.parse(path.read_text()) for path in FILES}
LIBRARIES = ("heapq", "math", "itertools", "collections")
LET_BUILTINS = """
    len range enumerate zip min max sum abs sorted reversed int str bool list tuple dict set frozenset isinstance
    ord repr any all divmod iter next map ValueError KeyError super
""".split()
BARRED_WORDS = re.compile(r"\b(typing|typing_extensions|enum|Enum|IntEnum|StrEnum|Flag|IntFlag|Generic|Protocol|ABC"
                          r"|ABCMeta|namedtuple|NamedTuple|TypedDict|TYPE_CHECKING|abstractmethod"
                          r")\b|dataclass|overload|contextmanager|_wall|_WallAttr")
BARRED_NAMES = re.compile(r"(register|mro|elements|open|input|law|version_info|with_traceback|add_note|type|vars|dir|id"
                          r"|compile|copyright|credits|license|exit|quit|help|eval|exec|globals|locals|os|sys|gc"
                          r"|format|format_map|_(pe|dcw|enum|cm|twin_re|lay|law|stub)_.*|_sre.*|__.*"
                          r"|_(cold|tuplegetter|outside|record|written_out|member_names)[_0-9]*)\Z")
METHODS = """
    append clear copy count endswith extend find get index insert isalnum isalpha isdigit islower isspace isupper
    items join keys ljust lower lstrip partition pop remove replace reverse rfind rjust rpartition rsplit rstrip
    setdefault split splitlines startswith strip update upper values zfill bit_length
""".split()


def bound(tree):
    """The names that a file's functions bind: parameters, variables, nested functions."""
    for node in ast.walk(tree):
        if isinstance(node, ast.arg):
            yield node.arg
        elif isinstance(node, ast.Name) and not isinstance(node.ctx, ast.Load):
            yield node.id


def named(tree):
    """All names that stand in a file, attributes and keywords too."""
    for node in ast.walk(tree):
        for field in ("id", "attr", "arg", "name", "asname"):
            if isinstance(getattr(node, field, None), str):
                yield getattr(node, field)


def functions(tree):
    return [node for node in ast.walk(tree) if isinstance(node, ast.FunctionDef)]


class Language(unittest.TestCase):

    def test_files(self):
        for path in FILES:
            self.assertRegex(path.name, r"^[a-z_0-9]+\.py$")
            text = path.read_text()
            self.assertRegex(text, r"\A[ -~\n]*\Z", path.name)
            lines = text.splitlines()
            self.assertLessEqual(len(lines), 399, path.name)
            self.assertLessEqual(max(map(len, lines)), 120, path.name)

    def test_functions_are_short(self):
        for name, tree in TREES.items():
            for node in functions(tree):
                self.assertLessEqual(node.end_lineno - node.lineno + 1, 40, (name, node.name))

    def test_module_level(self):
        for name, tree in TREES.items():
            for at, node in enumerate(tree.body):
                doc = at == 0 and isinstance(node, ast.Expr) and isinstance(node.value, ast.Constant)
                kinds = (ast.ImportFrom, ast.FunctionDef, ast.ClassDef, ast.Assign)
                self.assertTrue(doc or isinstance(node, kinds), (name, node.lineno))

    def test_imports(self):
        needs = {}
        for name, tree in TREES.items():
            needs[name] = []
            for node in ast.walk(tree):
                self.assertNotIsInstance(node, ast.Import, name)
                if isinstance(node, ast.ImportFrom) and node.module not in LIBRARIES:
                    self.assertIn(node, tree.body)
                    self.assertEqual((node.level, node.module.split(".")[0]), (0, "nestsay"))
                    file = node.module.split(".")[1]
                    needs[name].append(file)
                    made = [getattr(one, "name", None) or one.targets[0].id for one in TREES[file].body
                            if isinstance(one, (ast.FunctionDef, ast.ClassDef, ast.Assign))]
                    for each in node.names:
                        self.assertIn(each.name, made, (name, file))
        self.assertEqual(needs["__init__"], [])
        while needs:
            ready = [name for name in needs if not set(needs[name]) & set(needs)]
            self.assertTrue(ready, needs)
            for name in ready:
                del needs[name]

    def test_names(self):
        every = set(dir(builtins))
        for name, tree in TREES.items():
            taken = {each.name for node in tree.body if isinstance(node, ast.ImportFrom) for each in node.names}
            taken |= {node.name for node in tree.body if isinstance(node, ast.ClassDef)}
            top = [node.name for node in tree.body if isinstance(node, (ast.FunctionDef, ast.ClassDef))]
            self.assertEqual(len(top), len(set(top)), name)
            self.assertFalse(set(top) & every, name)
            self.assertFalse(set(bound(tree)) & (every | taken), name)
            for node in ast.walk(tree):
                if isinstance(node, ast.Name) and isinstance(node.ctx, ast.Load) and node.id in every:
                    self.assertIn(node.id, LET_BUILTINS, (name, node.lineno))
                if isinstance(node, ast.Constant):
                    self.assertNotIsInstance(node.value, (float, complex), (name, node.lineno))
                self.assertNotIsInstance(node, (ast.Div, ast.Global, ast.Set, ast.SetComp, ast.AsyncFunctionDef), name)

    def test_barred_names(self):
        for name, tree in TREES.items():
            for each in named(tree):
                # The last two stand only where the name of an error's class is read.
                if each not in ("__init__", "nestsay", "__class__", "__name__"):
                    self.assertIsNone(BARRED_NAMES.match(each), (name, each))

    def test_methods(self):
        own = {node.name for tree in TREES.values() for top in tree.body if isinstance(top, ast.ClassDef)
               for node in functions(top)}
        kept = {node.attr for tree in TREES.values() for node in ast.walk(tree)
                if isinstance(node, ast.Attribute) and isinstance(node.ctx, ast.Store)}
        self.assertFalse(own & kept)
        self.assertFalse((own | kept) & {each for value in ("", 0, [], {}, ()) for each in dir(value)} - {"__init__"})
        for name, tree in TREES.items():
            for node in ast.walk(tree):
                if isinstance(node, ast.Call) and isinstance(node.func, ast.Attribute):
                    self.assertIn(node.func.attr, METHODS + sorted(own), (name, node.lineno))
                elif isinstance(node, ast.Attribute) and node.attr not in ("__class__", "__name__"):
                    self.assertIn(node.attr, METHODS + sorted(own | kept), (name, node.lineno))

    def test_class_names(self):
        for name, path in zip(TREES, FILES):
            text = path.read_text().replace("self.__class__.__name__", "")
            self.assertNotIn("__class__", text, name)
            self.assertNotIn("__name__", text, name)

    def test_texts(self):
        for name, tree in TREES.items():
            for node in ast.walk(tree):
                if isinstance(node, ast.Constant) and isinstance(node.value, str):
                    self.assertNotIn("%", node.value, (name, node.lineno))

    def test_words(self):
        for path in FILES:
            for row in path.read_text().splitlines():
                self.assertIsNone(BARRED_WORDS.search(row), (path.name, row))
