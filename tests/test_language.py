"""The rules of LANGUAGE.md that can be seen from a file alone."""

import ast
import builtins
import pathlib
import re
import unittest

PACKAGE = pathlib.Path(__file__).resolve().parent.parent / "whohearddesk"
FILES = sorted(PACKAGE.glob("*.py"))

OWN_NAMES = set("""len range enumerate zip min max sum abs sorted reversed int str bool list tuple dict set frozenset
    isinstance ord repr any all divmod Exception ValueError TypeError KeyError IndexError LookupError
    ZeroDivisionError ArithmeticError OverflowError RuntimeError NotImplementedError AttributeError
    StopIteration""".split())
METHODS = set("""append clear copy count endswith extend find get index insert isalnum isalpha isdigit islower
    isspace isupper items join keys ljust lower lstrip partition pop remove replace reverse rfind rjust rpartition
    rsplit rstrip setdefault split splitlines startswith strip update upper values zfill bit_length""".split())
NODES = set("""Module Expr Constant ImportFrom alias FunctionDef arguments arg ClassDef Assign AugAssign If While For
    Return Break Continue Pass Raise Try ExceptHandler Call Name Attribute Subscript Slice Load Store BinOp UnaryOp
    BoolOp Compare IfExp List Tuple Dict Set ListComp comprehension JoinedStr FormattedValue Lambda keyword
    Add Sub Mult FloorDiv Mod Pow BitAnd BitOr BitXor LShift RShift Invert USub UAdd Not And Or
    Eq NotEq Lt LtE Gt GtE In NotIn Is IsNot""".split())
WORDS = re.compile(r"\b(type|typing|typing_extensions|enum|Enum|IntEnum|StrEnum|Flag|IntFlag|Generic|Protocol|ABC"
                   r"|ABCMeta|namedtuple|NamedTuple|TypedDict|TYPE_CHECKING|abstractmethod)\b"
                   r"|dataclass|overload|contextmanager")
UNUSED = set("""register mro elements open input version_info with_traceback add_note format format_map compile dir
    eval exec exit gc getattr globals hasattr help id importlib license locals os quit setattr super vars
    sys""".split())
PYTHONS_VALUES = set().union(*[set(dir(kind)) for kind in (int, str, list, tuple, dict, set, bytes)])


def walk(path, *kinds):
    return [node for node in ast.walk(ast.parse(path.read_text())) if isinstance(node, kinds)]


def bound_names(path):
    names = [node.id for node in walk(path, ast.Name) if isinstance(node.ctx, ast.Store)]
    names += [node.arg for node in walk(path, ast.arg)]
    return names + [node.name for node in walk(path, ast.FunctionDef, ast.ClassDef)]


class Files(unittest.TestCase):
    def test_python_files_alone(self):
        others = [path.name for path in PACKAGE.iterdir() if path.suffix != ".py" and path.name != "__pycache__"]
        self.assertEqual(others, [])
        for path in FILES:
            self.assertRegex(path.name, r"^([a-z][a-z0-9_]*|__init__)\.py$")
            self.assertNotIn(path.stem, dir(builtins))

    def test_size_and_signs(self):
        for path in FILES:
            text = path.read_bytes().decode("ascii")
            self.assertTrue(all(sign == "\n" or " " <= sign <= "~" for sign in text), path.name)
            rows = text.splitlines()
            self.assertLessEqual(len(rows), 400, path.name)
            self.assertLessEqual(max(len(row) for row in rows), 120, path.name)
            for node in walk(path, ast.FunctionDef):
                self.assertLessEqual(node.end_lineno - node.lineno + 1, 40, node.name)

    def test_words_that_stand_nowhere(self):
        for path in FILES:
            self.assertIsNone(WORDS.search(path.read_text()), path.name)


class Forms(unittest.TestCase):
    def test_only_the_statements_and_expressions_that_are_listed(self):
        for path in FILES:
            for node in walk(path, ast.AST):
                self.assertIn(type(node).__name__, NODES, (path.name, getattr(node, "lineno", 0)))

    def test_narrower_forms(self):
        for path in FILES:
            for node in walk(path, ast.Assign):
                self.assertEqual((len(node.targets), isinstance(node.targets[0], ast.Tuple)), (1, False), path.name)
            for node in walk(path, ast.For, ast.While):
                self.assertEqual(node.orelse, [], path.name)
            for node in walk(path, ast.ListComp):
                self.assertEqual(len(node.generators), 1, path.name)
            for node in walk(path, ast.FunctionDef, ast.ClassDef):
                self.assertEqual(node.decorator_list, [], path.name)
            for node in walk(path, ast.arguments):
                self.assertEqual((node.vararg, node.kwarg, node.kwonlyargs, node.posonlyargs), (None, None, [], []))
            for node in walk(path, ast.Constant):
                self.assertIn(type(node.value), (int, str, bool, type(None)), path.name)

    def test_is_stands_beside_none_true_false(self):
        for path in FILES:
            for node in walk(path, ast.Compare):
                if isinstance(node.ops[0], (ast.Is, ast.IsNot)):
                    self.assertIsInstance(node.comparators[0], ast.Constant)

    def test_imports_are_of_the_package_and_from_where_the_name_is_made(self):
        for path in FILES:
            for node in walk(path, ast.ImportFrom):
                self.assertEqual((node.level, node.module.split(".")[0]), (0, "whohearddesk"))
                source = PACKAGE / (node.module.split(".")[1] + ".py")
                for name in node.names:
                    self.assertIsNone(name.asname)
                    self.assertIn(name.name, bound_names(source))

    def test_no_two_files_draw_from_one_another(self):
        drawn = {path.stem: {node.module.split(".")[1] for node in walk(path, ast.ImportFrom)} for path in FILES}
        while drawn:
            free = [stem for stem in drawn if not drawn[stem] & set(drawn)]
            self.assertNotEqual(free, [], drawn)
            drawn = {stem: drawn[stem] for stem in drawn if stem not in free}

    def test_every_import_is_used(self):
        for path in FILES:
            used = {node.id for node in walk(path, ast.Name)}
            for node in walk(path, ast.ImportFrom):
                self.assertEqual([name.name for name in node.names if name.name not in used], [], path.name)


class Names(unittest.TestCase):
    def test_plain_and_not_pythons(self):
        for path in FILES:
            for name in bound_names(path):
                self.assertTrue(name == "__init__" or not name.startswith("_"), (path.name, name))
                self.assertNotIn(name, dir(builtins), path.name)
                self.assertNotIn(name, UNUSED, path.name)

    def test_read_names_are_bound_or_listed(self):
        for path in FILES:
            bound = set(bound_names(path))
            for node in walk(path, ast.ImportFrom):
                bound.update(name.name for name in node.names)
            for node in walk(path, ast.Name):
                self.assertIn(node.id, bound | OWN_NAMES, path.name)

    def test_locals_are_not_called_like_what_stands_at_the_top(self):
        for path in FILES:
            top = {name.name for node in walk(path, ast.ImportFrom) for name in node.names}
            top |= {node.name for node in ast.parse(path.read_text()).body
                    if isinstance(node, (ast.FunctionDef, ast.ClassDef))}
            inner = [node.arg for node in walk(path, ast.arg)]
            inner += [node.id for node in walk(path, ast.Name) if isinstance(node.ctx, ast.Store)]
            self.assertEqual(top & set(inner), set(), path.name)

    def test_values_of_objects_are_free_names(self):
        for path in FILES:
            called = [node.func for node in walk(path, ast.Call) if isinstance(node.func, ast.Attribute)]
            for node in called:
                self.assertIn(node.attr, METHODS, path.name)
            places = {(node.lineno, node.col_offset, node.attr) for node in called}
            for node in walk(path, ast.Attribute):
                if (node.lineno, node.col_offset, node.attr) not in places:
                    self.assertNotIn(node.attr, PYTHONS_VALUES | UNUSED, path.name)


if __name__ == "__main__":
    unittest.main()
