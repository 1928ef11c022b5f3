"""The part of Python that the package keeps to, as far as a walk over its files can see it."""

import ast
import os
import re
import unittest

ROOT = os.path.dirname(os.path.dirname(os.path.abspath(__file__)))
PACKAGE = os.path.join(ROOT, "framekeep")

NODES = set("""Module FunctionDef ClassDef arguments arg Return Assign AugAssign For While If Raise Try
    ExceptHandler Expr Pass Break Continue ImportFrom alias BoolOp And Or BinOp UnaryOp Not USub Invert Add Sub
    Mult FloorDiv Mod Pow LShift RShift BitOr BitXor BitAnd Compare Eq NotEq Lt LtE Gt GtE Is IsNot In NotIn Call
    keyword IfExp Attribute Subscript Slice Name Load Store Constant List Tuple Dict ListComp comprehension
    Lambda JoinedStr FormattedValue""".split())
PYTHONS_OWN = set("""len range enumerate zip min max sum abs sorted reversed int str bool list tuple dict set
    isinstance ord repr any all divmod Exception ValueError KeyError IndexError ZeroDivisionError""".split())
METHODS = set("""append clear copy count endswith extend find get index insert isalnum isalpha isdigit islower
    isspace isupper items join keys ljust lower lstrip partition pop remove replace reverse rfind rjust
    rpartition rsplit rstrip setdefault split splitlines startswith strip update upper values zfill
    bit_length""".split())
WORDS_OUT = re.compile(r"\b(type|typing|typing_extensions|enum|Enum|IntEnum|StrEnum|Flag|IntFlag|Generic|Protocol"
                       r"|ABC|ABCMeta|namedtuple|NamedTuple|TypedDict|TYPE_CHECKING|abstractmethod)\b"
                       r"|dataclass|overload|contextmanager")
NAMES_OUT = set("""register mro elements open input version_info with_traceback add_note attrgetter breakpoint
    builtins compile copyright credits delattr dir eval exec exit gc getattr globals hasattr help id importlib
    license locals methodcaller os quit setattr super sys vars chr format format_map hash next map bytes object
    float filter property print iter slice pow round""".split())


def sources():
    for name in sorted(os.listdir(PACKAGE)):
        if name != "__pycache__":
            with open(os.path.join(PACKAGE, name), encoding="utf-8") as file:
                yield name, file.read()


def nodes():
    for name, text in sources():
        for node in ast.walk(ast.parse(text)):
            yield f"{name}:{getattr(node, 'lineno', 0)}", node


class Language(unittest.TestCase):
    def test_files(self):
        for name, text in sources():
            self.assertRegex(name, r"^[a-z][a-z0-9_]*\.py$|^__init__\.py$")
            self.assertLessEqual(text.count("\n"), 400, name)
            self.assertRegex(text, r"\A[ -~\n]*\n\Z", name)
            for line in text.split("\n"):
                self.assertLessEqual(len(line), 120, name)
                self.assertIsNone(WORDS_OUT.search(line), (name, line))

    def test_only_plain_forms(self):
        for where, node in nodes():
            self.assertIn(type(node).__name__, NODES, where)
            if isinstance(node, ast.Constant):
                self.assertIn(type(node.value), (int, str, bool, type(None)), where)
            if isinstance(node, ast.Assign):
                self.assertEqual(len(node.targets), 1, where)
                self.assertNotIsInstance(node.targets[0], (ast.Tuple, ast.List), where)
            if isinstance(node, (ast.For, ast.While)):
                self.assertEqual(node.orelse, [], where)

    def test_functions(self):
        for where, node in nodes():
            if isinstance(node, ast.FunctionDef):
                self.assertLessEqual(node.end_lineno - node.lineno + 1, 40, where)
                self.assertEqual(node.decorator_list, [], where)
                self.assertIsNone(node.args.vararg or node.args.kwarg, where)
                self.assertEqual(node.args.kwonlyargs, [], where)

    def test_imports_are_the_packages_own_and_go_one_way(self):
        drawn = {}
        for name, text in sources():
            drawn[name] = []
            for node in ast.walk(ast.parse(text)):
                if isinstance(node, ast.ImportFrom):
                    self.assertRegex(node.module, r"^framekeep\.[a-z]+$", name)
                    drawn[name].append(node.module.split(".")[1] + ".py")
        while drawn:
            free = [name for name in drawn if not any(other in drawn for other in drawn[name])]
            self.assertNotEqual(free, [], drawn)
            for name in free:
                drawn.pop(name)

    def test_names(self):
        own = {node.name for where, node in nodes() if isinstance(node, ast.FunctionDef)}
        for where, node in nodes():
            if isinstance(node, ast.Name):
                self.assertNotIn(node.id, NAMES_OUT, where)
                self.assertRegex(node.id, r"^[A-Za-z][A-Za-z0-9_]*$", where)
                if isinstance(node.ctx, ast.Store):
                    self.assertNotIn(node.id, PYTHONS_OWN, where)
            if isinstance(node, ast.arg):
                self.assertNotIn(node.arg, NAMES_OUT | PYTHONS_OWN, where)
            if isinstance(node, ast.FunctionDef):
                self.assertNotIn(node.name, NAMES_OUT | PYTHONS_OWN, where)
            if isinstance(node, ast.Call) and isinstance(node.func, ast.Attribute):
                self.assertIn(node.func.attr, METHODS | own, where)

    def test_no_name_is_a_method_here_and_a_value_there(self):
        methods = set()
        values = set()
        for where, node in nodes():
            if isinstance(node, ast.ClassDef):
                methods |= {part.name for part in node.body if isinstance(part, ast.FunctionDef)}
            if isinstance(node, ast.Attribute) and isinstance(node.ctx, ast.Store):
                values.add(node.attr)
        self.assertEqual(methods & values, set())
        self.assertEqual((methods | values) & NAMES_OUT, set())


if __name__ == "__main__":
    unittest.main()
