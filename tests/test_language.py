"""The part of Python that the package keeps to, as far as a walk through its files can see it."""

import ast
import builtins
import pathlib
import re
import unittest

PACKAGE = pathlib.Path(__file__).resolve().parent.parent / "ballscover"

NODES = """Module Expr Constant ImportFrom alias FunctionDef Lambda arguments arg ClassDef Assign AugAssign If While For
Return Break Continue Pass Raise Try ExceptHandler Call keyword Name Attribute Subscript Slice List Tuple Dict Set
ListComp comprehension BinOp UnaryOp BoolOp Compare IfExp JoinedStr FormattedValue Load Store Add Sub Mult FloorDiv Mod
Pow LShift RShift BitAnd BitOr BitXor Invert USub UAdd Not And Or Eq NotEq Lt LtE Gt GtE Is IsNot In NotIn""".split()

OWN_NAMES = """len range enumerate zip min max sum abs sorted reversed int str bool list tuple dict set frozenset
isinstance ord repr any all divmod Exception ValueError TypeError KeyError IndexError LookupError ZeroDivisionError
ArithmeticError OverflowError RuntimeError NotImplementedError AttributeError StopIteration""".split()

OWN_METHODS = """append clear copy count endswith extend find get index insert isalnum isalpha isdigit islower isspace
isupper items join keys ljust lower lstrip partition pop remove replace reverse rfind rjust rpartition rsplit rstrip
setdefault split splitlines startswith strip update upper values zfill bit_length""".split()

NEVER_NAMES = """register mro elements open input version_info with_traceback add_note attrgetter breakpoint builtins
compile copyright credits delattr dir eval exec exit gc getattr globals hasattr help id importlib license locals
methodcaller os quit setattr super type vars sys""".split()

NEVER_WORDS = re.compile(
    r"\b(type|typing|typing_extensions|enum|Enum|IntEnum|StrEnum|Flag|IntFlag|Generic|Protocol|ABC|ABCMeta|namedtuple"
    r"|NamedTuple|TypedDict|TYPE_CHECKING|abstractmethod)\b|dataclass|overload|contextmanager")


def files():
    return [path for path in sorted(PACKAGE.rglob("*")) if path.is_file() and path.parent.name != "__pycache__"]


def trees():
    return [(path.name, ast.parse(path.read_text(encoding="utf-8"))) for path in files()]


def nodes(kind):
    return [(f"{name}:{node.lineno}", node) for name, tree in trees() for node in ast.walk(tree)
            if isinstance(node, kind)]


def bound_names(tree):
    """The names that a file gives a meaning, of parameters and locals too."""
    for node in ast.walk(tree):
        if isinstance(node, (ast.FunctionDef, ast.ClassDef, ast.alias)):
            yield node.name
        elif isinstance(node, ast.arg):
            yield node.arg
        elif isinstance(node, ast.Name) and isinstance(node.ctx, ast.Store):
            yield node.id


def top_names(part):
    """The names that a part of a file's top binds."""
    if isinstance(part, ast.ImportFrom):
        return [alias.name for alias in part.names]
    if isinstance(part, ast.Assign):
        return [target.id for target in part.targets]
    return [part.name] if isinstance(part, (ast.FunctionDef, ast.ClassDef)) else []


class Language(unittest.TestCase):
    def test_files(self):
        self.assertIn("__init__.py", [path.name for path in files()])
        for path in files():
            self.assertRegex(path.name, r"^(__init__|[a-z][a-z0-9_]*)\.py$")
            self.assertNotIn(path.stem, dir(builtins))

    def test_signs_sizes_and_words(self):
        for path in files():
            text = path.read_bytes().decode("ascii")
            self.assertRegex(text, r"\A[\n -~]*\Z", path.name)
            self.assertIsNone(NEVER_WORDS.search(text), path.name)
            self.assertLessEqual(len(text.splitlines()), 399, path.name)
            self.assertLessEqual(max(len(row) for row in text.splitlines()), 120, path.name)

    def test_functions(self):
        for where, node in nodes(ast.FunctionDef):
            self.assertLessEqual(node.end_lineno - node.lineno + 1, 40, where)
            self.assertEqual(node.decorator_list, [], where)
            taken = node.args
            self.assertFalse(taken.vararg or taken.kwarg or taken.kwonlyargs or taken.posonlyargs, where)

    def test_statements_and_expressions(self):
        for name, tree in trees():
            for node in ast.walk(tree):
                self.assertIn(type(node).__name__, NODES, name)
                if isinstance(node, ast.Constant):
                    self.assertIn(type(node.value), (int, str, bool, type(None)), name)
        for where, node in nodes(ast.Assign):
            self.assertEqual(len(node.targets), 1, where)
        for where, node in nodes(ast.ListComp):
            self.assertEqual(len(node.generators), 1, where)
            self.assertLessEqual(len(node.generators[0].ifs), 1, where)
        for where, node in nodes((ast.For, ast.While)):
            self.assertEqual(node.orelse, [], where)

    def test_imports(self):
        for where, node in nodes(ast.ImportFrom):
            self.assertEqual(node.level, 0, where)
            self.assertTrue(node.module.startswith("ballscover."), where)
            tree = ast.parse((PACKAGE / (node.module.split(".")[1] + ".py")).read_text())
            defined = [part.name for part in tree.body if isinstance(part, (ast.FunctionDef, ast.ClassDef))]
            for alias in node.names:
                self.assertIn(alias.name, defined, where)

    def test_no_two_files_draw_from_one_another(self):
        drawn = {path.stem: set() for path in files()}
        for where, node in nodes(ast.ImportFrom):
            drawn[where.split(".")[0]].add(node.module.split(".")[1])
        while drawn:
            ready = [name for name in drawn if not drawn[name] & set(drawn)]
            self.assertTrue(ready, drawn)
            drawn = {name: drawn[name] for name in drawn if name not in ready}

    def test_the_top_of_a_file(self):
        for name, tree in trees():
            self.assertIsNotNone(ast.get_docstring(tree), name)
            for part in tree.body[1:]:
                self.assertIsInstance(part, (ast.ImportFrom, ast.FunctionDef, ast.ClassDef, ast.Assign), name)
            bound = [one for part in tree.body for one in top_names(part)]
            self.assertEqual(len(bound), len(set(bound)), name)
            for part in tree.body:
                if isinstance(part, ast.Assign):
                    self.assertFalse([node for node in ast.walk(part.value)
                                      if isinstance(node, (ast.List, ast.Dict, ast.Set, ast.Call))], name)

    def test_no_local_is_called_like_an_import_or_a_class(self):
        for name, tree in trees():
            taken = [one for part in tree.body if isinstance(part, (ast.ImportFrom, ast.ClassDef))
                     for one in top_names(part)]
            for node in ast.walk(tree):
                if isinstance(node, ast.arg):
                    self.assertNotIn(node.arg, taken, name)
                elif isinstance(node, ast.Name) and isinstance(node.ctx, ast.Store):
                    self.assertNotIn(node.id, taken, name)

    def test_is_stands_beside_none_true_and_false_alone(self):
        for where, node in nodes(ast.Compare):
            for sort, other in zip(node.ops, node.comparators):
                if isinstance(sort, (ast.Is, ast.IsNot)):
                    self.assertIsInstance(other, ast.Constant, where)
                    self.assertIn(repr(other.value), ("None", "True", "False"), where)

    def test_no_annotation_no_keyword_and_no_set(self):
        # Rules allow some of these; the package does without.
        for where, node in nodes(ast.FunctionDef):
            self.assertIsNone(node.returns, where)
            self.assertFalse([one for one in node.args.args if one.annotation or node.args.defaults], where)
        self.assertEqual(nodes((ast.keyword, ast.Set, ast.Lambda, ast.Try)), [])
        self.assertEqual([where for where, node in nodes(ast.Name) if node.id in ("set", "frozenset")], [])

    def test_what_is_walked_is_walked_on_the_spot(self):
        for name, tree in trees():
            walked = [node.iter for node in ast.walk(tree) if isinstance(node, (ast.For, ast.comprehension))]
            for node in ast.walk(tree):
                if isinstance(node, ast.Call) and isinstance(node.func, ast.Name):
                    if node.func.id in ("range", "zip", "enumerate", "reversed"):
                        self.assertIn(node, walked, f"{name}:{node.lineno}")

    def test_names(self):
        for name, tree in trees():
            for bound in bound_names(tree):
                self.assertTrue(bound == "__init__" or re.fullmatch(r"[A-Za-z][A-Za-z0-9_]*", bound), f"{name} {bound}")
                self.assertNotIn(bound, dir(builtins), name)
                self.assertNotIn(bound, NEVER_NAMES, name)
            known = set(bound_names(tree)) | set(OWN_NAMES)
            for node in ast.walk(tree):
                if isinstance(node, ast.Name):
                    self.assertIn(node.id, known, name)

    def test_methods(self):
        own = [node.name for where, node in nodes(ast.FunctionDef)]
        for where, node in nodes(ast.Call):
            if isinstance(node.func, ast.Attribute):
                self.assertIn(node.func.attr, OWN_METHODS + own, where)

    def test_powers_have_a_written_exponent(self):
        for where, node in nodes(ast.BinOp):
            if isinstance(node.op, ast.Pow):
                self.assertIsInstance(node.right, ast.Constant, where)

    def test_the_interface_is_written_in_its_own_file_alone(self):
        found = [name for name, tree in trees() for part in tree.body
                 if isinstance(part, (ast.FunctionDef, ast.ClassDef)) and part.name == "answers"]
        self.assertEqual(found, ["words.py"])


if __name__ == "__main__":
    unittest.main()
