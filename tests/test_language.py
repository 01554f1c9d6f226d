"""The subset of Python in which the package is written: the rules of it that can be seen in the code.

It is stricter than ../shared/LANGUAGE.md: what the package does not need is not let through at all.
"""

import ast
import builtins
import re
import unittest
import warnings
from pathlib import Path

PACKAGE = Path(__file__).resolve().parent.parent / "nearestheld"
NODES = (
    "Module FunctionDef ClassDef arguments arg Return Assign For While If Raise Try ExceptHandler Pass Expr ImportFrom "
    "alias BoolOp And Or BinOp Add Sub Mult FloorDiv Mod Pow BitAnd RShift UnaryOp Not USub IfExp Dict ListComp "
    "DictComp comprehension "
    "Compare Eq NotEq Lt LtE Gt GtE Is IsNot In NotIn Call keyword Constant Attribute Subscript Name List Tuple "
    "Slice Load Store Break Continue"
).split()
CALLED_BUILTINS = (
    "len range enumerate zip min max sum abs sorted reversed int str bool list tuple dict isinstance ord repr any "
    "all divmod"
).split()
NAMED_BUILTINS = CALLED_BUILTINS + "ValueError TypeError KeyError IndexError LookupError ZeroDivisionError".split()
LIBRARY = "gcd lcm isqrt comb perm factorial".split()
METHODS = (
    "append clear copy count endswith extend find get index insert isalnum isalpha isdigit islower isspace isupper "
    "items join keys ljust lower lstrip partition pop remove replace reverse rfind rjust rpartition rsplit rstrip "
    "setdefault split splitlines startswith strip update upper values zfill bit_length"
).split()
BARRED_NAMES = (
    "register mro elements open input law version_info with_traceback add_note attrgetter breakpoint builtins "
    "compile copyright credits delattr dir eval exec exit gc getattr globals hasattr help id importlib license "
    "locals methodcaller os quit setattr super type vars sys __name__ iter next map"
).split()
BARRED_ATTRIBUTES = (
    "items keys values pop update append clear extend insert remove reverse setdefault sort args encode decode hex "
    "fromhex format format_map mro as_integer_ratio bit_count conjugate from_bytes is_integer to_bytes"
).split()
BARRED_WORDS = re.compile(
    r"\b(typing|typing_extensions|enum|Enum|IntEnum|StrEnum|Flag|IntFlag|Generic|Protocol|ABC|ABCMeta|namedtuple|"
    r"NamedTuple|TypedDict|TYPE_CHECKING|abstractmethod|_wall|_WallAttr)\b|dataclass|overload|contextmanager"
)
# The double-underscore methods that the package needs; a docstring would say nothing new in them.
SPECIAL_METHODS = ("__init__", "__eq__")
FILES = sorted(PACKAGE.rglob("*.py"))
BUILTINS = [name for name in dir(builtins) if name != "_"]


def bound_names(tree):
    """All names that a file gives to something, with their nodes."""
    for node in ast.walk(tree):
        if isinstance(node, ast.Name) and isinstance(node.ctx, ast.Store):
            yield node.id
        elif isinstance(node, ast.arg):
            yield node.arg
        elif isinstance(node, (ast.FunctionDef, ast.ClassDef)):
            yield node.name
        elif isinstance(node, ast.alias):
            yield node.name


def local_names(function):
    """The parameters and local variables of a function, those of its comprehensions too."""
    return {name for part in [function.args, *function.body] for name in bound_names(part)}


def is_plain_value(node):
    if isinstance(node, (ast.Tuple, ast.List)):
        return all(is_plain_value(part) for part in node.elts)
    if isinstance(node, ast.Dict):
        return all(is_plain_value(part) for part in [*node.keys, *node.values])
    if isinstance(node, ast.UnaryOp):
        return is_plain_value(node.operand)
    return isinstance(node, ast.Constant)


class Files(unittest.TestCase):
    def test_each_file_keeps_each_rule(self):
        rules = [getattr(self, name) for name in dir(self) if name.startswith("rule_")]
        self.assertEqual(len(rules), 15)
        for path in FILES:
            text = path.read_text()
            for rule in rules:
                with self.subTest(file=path.name, rule=rule.__name__):
                    rule(path, text, ast.parse(text))

    def rule_names_and_characters(self, path, text, tree):
        self.assertRegex(path.name, r"\A(__init__|[a-z][a-z0-9_]*)\.py\Z")
        self.assertNotIn(path.stem, BUILTINS)
        self.assertEqual(path.parent, PACKAGE)
        self.assertRegex(text, r"\A[ -~\n]*\Z")
        self.assertIsNone(BARRED_WORDS.search(text))

    def rule_sizes(self, path, text, tree):
        lines = text.split("\n")
        self.assertLessEqual(len(lines), 400)
        self.assertLessEqual(max(map(len, lines)), 120)
        for node in ast.walk(tree):
            if isinstance(node, ast.FunctionDef):
                self.assertLessEqual(node.end_lineno - node.lineno + 1, 40, node.name)

    def rule_no_warning_of_python(self, path, text, tree):
        with warnings.catch_warnings():
            warnings.simplefilter("error")
            compile(text, path.name, "exec")

    def rule_only_plain_nodes(self, path, text, tree):
        for node in ast.walk(tree):
            self.assertIn(node.__class__.__name__, NODES, getattr(node, "lineno", 0))

    def rule_module_level(self, path, text, tree):
        for at, node in enumerate(tree.body):
            if isinstance(node, ast.Expr):
                self.assertTrue(at == 0 and isinstance(node.value.value, str))
            elif isinstance(node, ast.Assign):
                self.assertEqual([target.__class__ for target in node.targets], [ast.Name])
                self.assertTrue(is_plain_value(node.value))
            else:
                self.assertIsInstance(node, (ast.ImportFrom, ast.FunctionDef, ast.ClassDef))
        names = [name for node in tree.body for name in self.names_bound_by(node)]
        self.assertEqual(len(names), len(set(names)))

    def names_bound_by(self, node):
        if isinstance(node, ast.ImportFrom):
            return [alias.name for alias in node.names]
        if isinstance(node, ast.Assign):
            return [node.targets[0].id]
        return [node.name] if hasattr(node, "name") else []

    def rule_imports(self, path, text, tree):
        for node in ast.walk(tree):
            if isinstance(node, ast.ImportFrom):
                self.assertIn(node, tree.body)
                self.assertEqual([alias.asname for alias in node.names], [None] * len(node.names))
                if node.module == "math":
                    self.assertLessEqual({alias.name for alias in node.names}, set(LIBRARY))
                    continue
                self.assertRegex(node.module, r"\Anearestheld\.[a-z]+\Z")
                home = ast.parse((PACKAGE / (node.module.split(".")[1] + ".py")).read_text())
                makers = [part for part in home.body if not isinstance(part, ast.ImportFrom)]
                defined = [name for part in makers for name in self.names_bound_by(part)]
                for alias in node.names:
                    self.assertIn(alias.name, defined)
                    self.assertFalse(alias.name.startswith("_"))

    def rule_functions(self, path, text, tree):
        for node in ast.walk(tree):
            if isinstance(node, (ast.FunctionDef, ast.ClassDef)):
                self.assertEqual(node.decorator_list, [])
            if isinstance(node, ast.FunctionDef):
                inner = [part for part in ast.walk(node) if isinstance(part, ast.FunctionDef)]
                self.assertEqual(inner, [node])
                rest = node.args
                self.assertEqual([rest.vararg, rest.kwarg, rest.kwonlyargs, rest.posonlyargs], [None, None, [], []])
                self.assertEqual([rest.defaults, node.returns], [[], None])
                self.assertEqual([argument.annotation for argument in rest.args], [None] * len(rest.args))

    def rule_docstrings(self, path, text, tree):
        if text:
            self.assertTrue(ast.get_docstring(tree))
        for node in ast.walk(tree):
            if isinstance(node, (ast.FunctionDef, ast.ClassDef)) and node.name not in SPECIAL_METHODS:
                self.assertTrue(ast.get_docstring(node), node.name)

    def rule_names(self, path, text, tree):
        for name in bound_names(tree):
            self.assertFalse(name.startswith("__") and name not in SPECIAL_METHODS, name)
            self.assertNotIn(name, BUILTINS)
            self.assertNotIn(name, BARRED_NAMES)
        top = {name for node in tree.body for name in self.names_bound_by(node)}
        for node in ast.walk(tree):
            if isinstance(node, ast.FunctionDef):
                self.assertEqual(local_names(node) & top, set(), node.name)

    def rule_builtins_and_methods(self, path, text, tree):
        called = [node.func for node in ast.walk(tree) if isinstance(node, ast.Call)]
        in_isinstance = [part for node in ast.walk(tree) if isinstance(node, ast.Call)
                         and getattr(node.func, "id", "") == "isinstance" for part in ast.walk(node.args[1])]
        for node in ast.walk(tree):
            if isinstance(node, ast.Name) and node.id in BUILTINS:
                self.assertIn(node.id, NAMED_BUILTINS)
                if node.id in CALLED_BUILTINS:
                    self.assertTrue(node in called or node in in_isinstance, node.lineno)
            if isinstance(node, ast.Name):
                self.assertFalse(node.id == "_" and isinstance(node.ctx, ast.Load))
        for function in called:
            if isinstance(function, ast.Attribute):
                self.assertIn(function.attr, METHODS + self.methods_in(tree))

    def methods_in(self, tree):
        return [part.name for node in tree.body if isinstance(node, ast.ClassDef)
                for part in node.body if isinstance(part, ast.FunctionDef)]

    def rule_classes(self, path, text, tree):
        attributes = [node.attr for node in ast.walk(tree) if isinstance(node, ast.Attribute)]
        stored = [node.attr for node in ast.walk(tree)
                  if isinstance(node, ast.Attribute) and isinstance(node.ctx, ast.Store)]
        methods = self.methods_in(tree)
        self.assertEqual(set(stored) & set(methods), set())
        self.assertEqual(set(stored) & set(BARRED_ATTRIBUTES), set())
        self.assertLessEqual(set(attributes), set(stored) | set(methods) | set(METHODS))
        self.assertNotIn("sort", attributes)
        for node in tree.body:
            if isinstance(node, ast.ClassDef):
                names = [part.name for part in node.body if isinstance(part, ast.FunctionDef)]
                self.assertEqual(len(names), len(set(names)))
                self.assertEqual([part for part in node.body if not isinstance(part, (ast.FunctionDef, ast.Expr))], [])
                self.assertTrue(all([part.args.args[0].arg == "self" for part in node.body if hasattr(part, "args")]))

    def rule_numbers_and_strings(self, path, text, tree):
        docs = [id(node.body[0].value) for node in ast.walk(tree) if isinstance(node, (
            ast.Module, ast.FunctionDef, ast.ClassDef)) and node.body and isinstance(node.body[0], ast.Expr)]
        for node in ast.walk(tree):
            if isinstance(node, ast.Constant):
                self.assertIsInstance(node.value, (int, str, None.__class__))
                if isinstance(node.value, str):
                    self.assertNotIn("%", node.value)
                    self.assertTrue(id(node) in docs or not re.search(r"\A__|\._+\Z|\btype\b", node.value))
            if isinstance(node, ast.BinOp) and isinstance(node.op, ast.Pow):
                self.assertTrue(isinstance(node.right, ast.Constant) and 0 <= node.right.value <= 64)

    def rule_is_stands_beside_constants_only(self, path, text, tree):
        for node in ast.walk(tree):
            if isinstance(node, ast.Compare):
                for sign, right in zip(node.ops, node.comparators):
                    if isinstance(sign, (ast.Is, ast.IsNot)):
                        self.assertTrue(isinstance(right, ast.Constant) and right.value in (None, True, False))

    def rule_only_own_errors_are_caught(self, path, text, tree):
        own = [node.name for node in ast.parse((PACKAGE / "errors.py").read_text()).body if hasattr(node, "name")]
        for node in ast.walk(tree):
            if isinstance(node, ast.Try):
                self.assertEqual([node.finalbody, node.orelse, len(node.body), len(node.handlers)], [[], [], 1, 1])
            if isinstance(node, ast.ExceptHandler):
                self.assertIsNone(node.name)
                self.assertIn(node.type.id, own)

    def rule_loops_do_not_change_what_they_go_over(self, path, text, tree):
        for loop in [node for node in ast.walk(tree) if isinstance(node, ast.For)]:
            over = {part.id for part in ast.walk(loop.iter) if isinstance(part, ast.Name)}
            for node in [part for row in loop.body for part in ast.walk(row)]:
                if isinstance(node, ast.Call) and isinstance(node.func, ast.Attribute):
                    self.assertNotIn(getattr(node.func.value, "id", None), over)
                if isinstance(node, ast.Subscript) and isinstance(node.ctx, ast.Store):
                    self.assertNotIn(getattr(node.value, "id", None), over)


if __name__ == "__main__":
    unittest.main()
