"""The package keeps to ../shared/LANGUAGE.md, as far as its rules can be seen in the text of a file."""

import ast
import builtins
import pathlib
import re
import unittest

PACKAGE = pathlib.Path(__file__).resolve().parent.parent / "townexchange"
FILES = sorted(PACKAGE.glob("*.py"))

NODES = (
    "Module FunctionDef ClassDef arguments arg Return Assign AugAssign For While If Raise Try ExceptHandler Pass Break "
    "Continue ImportFrom alias Expr Call Constant Name Load Store Attribute Subscript Slice List Tuple Dict ListComp "
    "comprehension IfExp Compare BoolOp BinOp UnaryOp And Or Not USub Add Sub Mult FloorDiv Mod Pow BitAnd BitOr "
    "BitXor Invert LShift RShift Eq NotEq Lt LtE Gt GtE Is IsNot In NotIn keyword Lambda JoinedStr FormattedValue"
).split()

OWN_NAMES = (
    "len range enumerate zip min max sum abs sorted reversed int str bool list tuple dict set frozenset isinstance ord "
    "repr any all divmod Exception ValueError TypeError KeyError IndexError LookupError ZeroDivisionError "
    "ArithmeticError OverflowError RuntimeError NotImplementedError AttributeError StopIteration"
).split()

METHODS = (
    "append clear copy count endswith extend find get index insert isalnum isalpha isdigit islower isspace isupper "
    "items join keys ljust lower lstrip partition pop remove replace reverse rfind rjust rpartition rsplit rstrip "
    "setdefault split splitlines startswith strip update upper values zfill bit_length"
).split()

BANNED_WORDS = (
    "type typing typing_extensions enum Enum IntEnum StrEnum Flag IntFlag Generic Protocol ABC ABCMeta namedtuple "
    "NamedTuple TypedDict TYPE_CHECKING abstractmethod register mro elements open input version_info"
).split()


def walk(path, kinds):
    return [node for node in ast.walk(ast.parse(path.read_text())) if isinstance(node, kinds)]


class Language(unittest.TestCase):
    def test_nothing_else_lies_in_the_package(self):
        others = [path for path in PACKAGE.iterdir() if path not in FILES and path.name != "__pycache__"]
        self.assertEqual(others, [])
        self.assertIn(PACKAGE / "__init__.py", FILES)
        self.assertTrue(all(re.fullmatch("[a-z_][a-z0-9_]*", path.stem) for path in FILES))

    def test_sizes_and_signs(self):
        for path in FILES:
            text = path.read_text()
            self.assertLessEqual(len(text.splitlines()), 399, path)
            self.assertLessEqual(max(len(line) for line in text.splitlines()), 120, path)
            self.assertIsNone(re.search("[^ -~\n]", text), path)
            for node in walk(path, ast.FunctionDef):
                self.assertLessEqual(node.end_lineno - node.lineno + 1, 40, (path, node.name))

    def test_words_that_stand_nowhere(self):
        for path in FILES:
            words = re.findall("[A-Za-z_0-9]+", path.read_text())
            self.assertEqual([word for word in words if word in BANNED_WORDS], [], path)

    def test_only_the_small_part_of_the_language(self):
        for path in FILES:
            for node in walk(path, ast.AST):
                self.assertIn(node.__class__.__name__, NODES, path)
            for node in walk(path, ast.Assign):
                self.assertEqual(len(node.targets), 1, path)
                self.assertNotIsInstance(node.targets[0], (ast.Tuple, ast.List), path)
            for node in walk(path, (ast.For, ast.While)):
                self.assertEqual(node.orelse, [], path)
            for node in walk(path, ast.FunctionDef):
                self.assertEqual((node.decorator_list, node.args.vararg, node.args.kwarg, node.args.kwonlyargs),
                                 ([], None, None, []), path)
            for node in walk(path, ast.Compare):
                for sign, right in zip(node.ops, node.comparators):
                    if isinstance(sign, (ast.Is, ast.IsNot)):
                        self.assertIsInstance(right, ast.Constant, path)

    def test_expressions_by_themselves_are_calls(self):
        for path in FILES:
            tree = ast.parse(path.read_text())
            for node in ast.walk(tree):
                if isinstance(node, ast.Expr) and node != tree.body[0]:
                    self.assertIsInstance(node.value, ast.Call, (path, node.lineno))

    def test_imports(self):
        for path in FILES:
            for node in walk(path, ast.ImportFrom):
                self.assertEqual(node.level, 0, path)
                self.assertTrue(node.module.startswith("townexchange."), path)
                source = PACKAGE / (node.module.split(".")[1] + ".py")
                here = [part.name for part in ast.parse(source.read_text()).body if hasattr(part, "name")]
                here += [part.targets[0].id for part in ast.parse(source.read_text()).body
                         if isinstance(part, ast.Assign)]
                for part in node.names:
                    self.assertIn(part.name, here, path)

    def test_names(self):
        for path in FILES:
            tops = [node.name for node in walk(path, ast.ClassDef)]
            tops += [part.name for node in walk(path, ast.ImportFrom) for part in node.names]
            stored = [node.id for node in walk(path, ast.Name) if isinstance(node.ctx, ast.Store)]
            stored += [node.arg for node in walk(path, ast.arg)]
            for name in stored:
                self.assertFalse(name.startswith("_") or name in tops or hasattr(builtins, name), (path, name))
            for node in walk(path, ast.Name):
                if hasattr(builtins, node.id):
                    self.assertIn(node.id, OWN_NAMES, path)
            for node in walk(path, ast.Call):
                if isinstance(node.func, ast.Attribute):
                    self.assertIn(node.func.attr, METHODS, path)

    def test_a_top_name_is_bound_once_to_a_plain_value(self):
        for path in FILES:
            body = ast.parse(path.read_text()).body
            names = [part.name for part in body if hasattr(part, "name")]
            for part in body:
                if isinstance(part, ast.Assign):
                    names.append(part.targets[0].id)
                    ast.literal_eval(part.value)
            self.assertEqual(len(set(names)), len(names), path)

    def test_the_interface_stands_where_its_name_tells(self):
        holders = [path.name for path in FILES
                   for part in ast.parse(path.read_text()).body if getattr(part, "name", None) == "answers"]
        self.assertEqual(holders, ["exchange.py"])
