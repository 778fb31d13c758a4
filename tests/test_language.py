"""Holds the package's files to the rules of LANGUAGE.md that can be seen in the text and its tree."""

import ast
import builtins
import pathlib
import re
import unittest

PACKAGE = pathlib.Path(__file__).resolve().parent.parent / "stepjobs"

NODES = """
    Module Import ImportFrom alias FunctionDef ClassDef arguments arg Return Assign AugAssign For While If Raise Try
    ExceptHandler Expr Pass Break Continue Call Constant Name Attribute Subscript Slice List Tuple Dict Set ListComp
    comprehension keyword BinOp BoolOp UnaryOp Compare IfExp Lambda JoinedStr FormattedValue Load Store Add Sub Mult
    FloorDiv Mod Pow BitAnd BitOr BitXor Invert LShift RShift And Or Not USub UAdd Eq NotEq Lt LtE Gt GtE Is IsNot In
    NotIn
""".split()

OWN = """
    len range enumerate zip min max sum abs sorted reversed int str bool list tuple dict set frozenset isinstance ord
    repr any all divmod Exception ValueError TypeError KeyError IndexError LookupError ZeroDivisionError
    ArithmeticError OverflowError RuntimeError NotImplementedError AttributeError StopIteration
""".split()

METHODS = """
    append clear copy count endswith extend find get index insert isalnum isalpha isdigit islower isspace isupper
    items join keys ljust lower lstrip partition pop remove replace reverse rfind rjust rpartition rsplit rstrip
    setdefault split splitlines startswith strip update upper values zfill bit_length
""".split()

NOT_OWN_VALUES = """
    items keys values pop update append clear extend insert remove reverse setdefault sort args encode format
""".split()

UNUSED = "register mro elements open input version_info with_traceback add_note format format_map".split()

WORDS = re.compile(
    r"\b(type|typing|typing_extensions|enum|Enum|IntEnum|StrEnum|Flag|IntFlag|Generic|Protocol|ABC|ABCMeta|"
    r"namedtuple|NamedTuple|TypedDict|TYPE_CHECKING|abstractmethod)\b|dataclass|overload|contextmanager"
)

KEYWORDS = {"sorted": ["key", "reverse"], "min": ["key", "default"], "max": ["key", "default"], "sum": ["start"],
            "enumerate": ["start"], "zip": ["strict"]}

WALKED = "zip enumerate reversed range items keys values".split()

WALKERS = "list tuple dict sorted sum any all enumerate zip min max".split()

SPECIAL = ["__init__", "__eq__", "__repr__", "__str__", "__len__"]


def files():
    return sorted(path for path in PACKAGE.rglob("*") if path.is_file() and path.parent.name != "__pycache__")


def text_of(path):
    return path.read_bytes().decode("utf-8")


def nodes(path):
    return list(ast.walk(ast.parse(text_of(path))))


def defs(path):
    return [node for node in nodes(path) if isinstance(node, ast.FunctionDef)]


def nodes_called(path, names):
    calls = [node for node in nodes(path) if isinstance(node, ast.Call)]
    return [node for node in calls if getattr(node.func, "id", getattr(node.func, "attr", None)) in names]


def bound(path):
    """Every name that the file gives a meaning, with its row."""
    for node in nodes(path):
        if isinstance(node, ast.Name) and isinstance(node.ctx, ast.Store):
            yield node.id, node.lineno
        elif isinstance(node, (ast.FunctionDef, ast.ClassDef)):
            yield node.name, node.lineno
        elif isinstance(node, ast.arg):
            yield node.arg, node.lineno
        elif isinstance(node, ast.alias):
            yield node.asname or node.name, node.lineno
        elif isinstance(node, ast.Attribute) and isinstance(node.ctx, ast.Store):
            yield node.attr, node.lineno


def where(path, node):
    return f"{path.name}:{getattr(node, 'lineno', 0)}"


def is_docstring(node):
    return isinstance(node, ast.Expr) and isinstance(node.value, ast.Constant) and isinstance(node.value.value, str)


class Language(unittest.TestCase):
    def test_files(self):
        self.assertTrue((PACKAGE / "__init__.py").is_file())
        self.assertTrue((PACKAGE / "house.py").is_file())
        for path in files():
            self.assertRegex(path.name, r"\A([a-z][a-z0-9_]*|__init__|__main__)\.py\Z")
            self.assertNotIn(path.stem, dir(builtins))
            self.assertNotRegex(path.stem, r"\A(tests?|testing|test_.*|site|conftest|sitecustomize|usercustomize)\Z")

    def test_signs_and_sizes(self):
        for path in files():
            text = text_of(path)
            self.assertRegex(text, r"\A[ -~\n]*\Z")
            rows = text.splitlines()
            self.assertLessEqual(len(rows), 400)
            self.assertLessEqual(max(len(row) for row in rows), 120)
            for node in defs(path):
                self.assertLessEqual(node.end_lineno - node.lineno + 1, 40, where(path, node))

    def test_words_that_stand_nowhere(self):
        for path in files():
            self.assertIsNone(WORDS.search(text_of(path)))

    def test_only_the_listed_parts_of_the_language(self):
        for path in files():
            for node in nodes(path):
                self.assertIn(node.__class__.__name__, NODES, where(path, node))
                self.assertFalse(isinstance(node, (ast.For, ast.While)) and node.orelse, where(path, node))
                self.assertFalse(isinstance(node, ast.Try) and node.finalbody, where(path, node))
                self.assertFalse(isinstance(node, ast.Assign) and len(node.targets) != 1, where(path, node))
                if isinstance(node, ast.Constant):
                    self.assertTrue(node.value is None or isinstance(node.value, (bool, int, str)), where(path, node))
                if isinstance(node, ast.ListComp):
                    self.assertEqual(len(node.generators), 1, where(path, node))
                    self.assertLessEqual(len(node.generators[0].ifs), 1, where(path, node))

    def test_a_text_by_itself_is_the_docstring_of_the_file(self):
        for path in files():
            tree = ast.parse(text_of(path))
            self.assertTrue(is_docstring(tree.body[0]))
            for node in nodes(path):
                if isinstance(node, ast.Expr) and node.lineno != tree.body[0].lineno:
                    self.assertIsInstance(node.value, ast.Call, where(path, node))

    def test_defs(self):
        for path in files():
            for node in defs(path):
                told = node.args
                self.assertFalse(told.vararg or told.kwarg or told.kwonlyargs or told.posonlyargs, where(path, node))
                self.assertFalse(node.decorator_list, where(path, node))
                self.assertFalse(node.returns or [one for one in told.args if one.annotation], where(path, node))

    def test_classes(self):
        for path in files():
            tree = ast.parse(text_of(path))
            for node in ast.walk(tree):
                if isinstance(node, ast.ClassDef):
                    self.assertIn(node.name, [one.name for one in tree.body if isinstance(one, ast.ClassDef)])
                    self.assertFalse(node.decorator_list or node.keywords, where(path, node))
                    self.assertLessEqual(len(node.bases), 1, where(path, node))
                    self.assertTrue(all(isinstance(one, ast.FunctionDef) for one in node.body), where(path, node))
                    names = [one.name for one in node.body]
                    self.assertEqual(len(names), len(set(names)), where(path, node))

    def test_methods_and_values_have_names_of_their_own(self):
        methods, values = set(), set()
        for path in files():
            for node in nodes(path):
                if isinstance(node, ast.ClassDef):
                    methods |= {one.name for one in node.body}
                if isinstance(node, ast.Attribute) and isinstance(node.ctx, ast.Store):
                    values.add(node.attr)
        self.assertEqual(methods & values, set())
        self.assertEqual(values & set(NOT_OWN_VALUES), set())

    def test_the_top_of_a_file(self):
        for path in files():
            names = []
            for node in ast.parse(text_of(path)).body[1:]:
                self.assertIsInstance(node, (ast.ImportFrom, ast.FunctionDef, ast.ClassDef, ast.Assign))
                if isinstance(node, ast.Assign):
                    names.append(node.targets[0].id)
                    ast.literal_eval(node.value)
                elif isinstance(node, ast.ImportFrom):
                    names.extend(one.name for one in node.names)
                else:
                    names.append(node.name)
            self.assertEqual(len(names), len(set(names)))

    def test_imports_are_of_the_package_alone_and_make_no_ring(self):
        drawn = {}
        for path in files():
            drawn[path.stem] = []
            for node in nodes(path):
                self.assertNotIsInstance(node, ast.Import)
                if isinstance(node, ast.ImportFrom):
                    self.assertEqual(node.level, 0)
                    self.assertRegex(node.module, r"\Astepjobs\.[a-z][a-z0-9_]*\Z")
                    other = node.module.split(".")[1]
                    drawn[path.stem] += [other, "__init__"]
                    tops = [one.name for one in ast.parse(text_of(PACKAGE / f"{other}.py")).body
                            if isinstance(one, (ast.FunctionDef, ast.ClassDef))]
                    tops += [one.targets[0].id for one in ast.parse(text_of(PACKAGE / f"{other}.py")).body
                             if isinstance(one, ast.Assign)]
                    for one in node.names:
                        self.assertIn(one.name, tops)
                        self.assertIsNone(one.asname)
        while drawn:
            free = [name for name in drawn if not [other for other in drawn[name] if other in drawn]]
            self.assertTrue(free, f"files draw from one another: {drawn}")
            for name in free:
                del drawn[name]

    def test_names(self):
        for path in files():
            for name, row in bound(path):
                if name not in SPECIAL:
                    self.assertRegex(name, r"\A[A-Za-z][A-Za-z0-9_]*\Z", f"{path.name}:{row}")
                self.assertNotIn(name, dir(builtins), f"{path.name}:{row}")
                self.assertNotIn(name, UNUSED, f"{path.name}:{row}")

    def test_only_the_listed_names_of_pythons_own(self):
        for path in files():
            known = {name for name, row in bound(path)} | set(OWN)
            for node in nodes(path):
                if isinstance(node, ast.Name):
                    self.assertIn(node.id, known, where(path, node))

    def test_only_the_listed_methods_and_own_ones(self):
        own = set()
        for path in files():
            own |= {name for name, row in bound(path)}
        for path in files():
            for node in nodes(path):
                if isinstance(node, ast.Attribute):
                    self.assertIn(node.attr, own | set(METHODS), where(path, node))
                    self.assertNotIn(node.attr, UNUSED, where(path, node))

    def test_keywords(self):
        for path in files():
            for node in nodes(path):
                if isinstance(node, ast.Call) and node.keywords:
                    self.assertIsInstance(node.func, ast.Name, where(path, node))
                    for one in node.keywords:
                        self.assertIn(one.arg, KEYWORDS.get(node.func.id, []), where(path, node))

    def test_no_local_is_called_like_a_class_or_an_import_of_its_file(self):
        for path in files():
            tops = [one.name for one in ast.parse(text_of(path)).body if isinstance(one, ast.ClassDef)]
            tops += [one.name for node in nodes(path) if isinstance(node, ast.ImportFrom) for one in node.names]
            for node in nodes(path):
                if isinstance(node, ast.arg):
                    self.assertNotIn(node.arg, tops, where(path, node))
                if isinstance(node, ast.Name) and isinstance(node.ctx, ast.Store):
                    self.assertNotIn(node.id, tops, where(path, node))

    def test_what_is_walked_at_once_is_not_kept(self):
        for path in files():
            walked = []
            for node in nodes(path):
                if isinstance(node, (ast.For, ast.comprehension)):
                    walked.append(node.iter)
                elif isinstance(node, ast.Call) and isinstance(node.func, ast.Name) and node.func.id in WALKERS:
                    walked.extend(node.args)
            for node in nodes_called(path, WALKED):
                self.assertIn(ast.dump(node, include_attributes=True),
                              [ast.dump(one, include_attributes=True) for one in walked], where(path, node))

    def test_is_stands_beside_none_true_and_false_alone(self):
        for path in files():
            for node in nodes(path):
                if isinstance(node, ast.Compare) and any(isinstance(one, (ast.Is, ast.IsNot)) for one in node.ops):
                    sides = [node.left, *node.comparators]
                    plain = [one for one in sides if isinstance(one, ast.Constant) and one.value in (None, True, False)]
                    self.assertTrue(plain, where(path, node))


if __name__ == "__main__":
    unittest.main()
