"""The rules of LANGUAGE.md that a look at the package's files can tell; the rule's number stands in each message."""

import ast
import builtins
import re
import unittest
from pathlib import Path

PACKAGE = Path(__file__).resolve().parent.parent / "groupwalks"

STATEMENTS = (ast.Assign, ast.AugAssign, ast.If, ast.While, ast.For, ast.Return, ast.Break, ast.Continue, ast.Pass,
              ast.Raise, ast.Try, ast.Expr, ast.FunctionDef, ast.ClassDef, ast.ImportFrom)
EXPRESSIONS = (ast.Constant, ast.Name, ast.Attribute, ast.Subscript, ast.Slice, ast.Call, ast.Tuple, ast.List, ast.Dict,
               ast.Set, ast.BinOp, ast.UnaryOp, ast.BoolOp, ast.Compare, ast.IfExp, ast.ListComp, ast.Lambda,
               ast.JoinedStr, ast.FormattedValue)
OWN_NAMES = """len range enumerate zip min max sum abs sorted reversed int str bool list tuple dict set frozenset isinstance
    ord repr any all divmod Exception ValueError TypeError KeyError IndexError LookupError ZeroDivisionError
    ArithmeticError OverflowError RuntimeError NotImplementedError AttributeError StopIteration""".split()
METHODS = """append clear copy count endswith extend find get index insert isalnum isalpha isdigit islower isspace isupper
    items join keys ljust lower lstrip partition pop remove replace reverse rfind rjust rpartition rsplit rstrip
    setdefault split splitlines startswith strip update upper values zfill bit_length""".split()
UNUSED_NAMES = """register mro elements open input version_info with_traceback add_note attrgetter breakpoint builtins
    compile copyright credits delattr dir eval exec exit gc getattr globals hasattr help id importlib license locals
    methodcaller os quit setattr super vars sys __name__ format format_map chr""".split()
UNUSED_WORDS = re.compile(r"\b(type|typing|typing_extensions|enum|Enum|IntEnum|StrEnum|Flag|IntFlag|Generic|Protocol|ABC"
                          r"|ABCMeta|namedtuple|NamedTuple|TypedDict|TYPE_CHECKING|abstractmethod)\b"
                          r"|dataclass|overload|contextmanager")
TOP = (ast.ImportFrom, ast.FunctionDef, ast.ClassDef, ast.Assign)
SPECIAL = ("__init__", "__eq__", "__repr__", "__str__", "__len__")
WALKED = ("zip", "enumerate", "reversed", "range", "items", "keys", "values")
WALKING = ("list", "tuple", "dict", "sorted", "sum", "any", "all", "enumerate", "zip", "min", "max", "join")
KEYWORDS = {"sorted": ("key", "reverse"), "min": ("key", "default"), "max": ("key", "default"), "sum": ("start",),
            "enumerate": ("start",), "zip": ("strict",)}


def files():
    return sorted(PACKAGE.glob("*.py"))


def trees():
    return [(path.name, ast.parse(path.read_text(encoding="utf-8"))) for path in files()]


def nodes(kinds):
    return [(f"{name}:{node.lineno}", node) for name, tree in trees() for node in ast.walk(tree) if
            isinstance(node, kinds)]


def bound_names():
    for where, node in nodes((ast.Name, ast.arg, ast.FunctionDef, ast.ClassDef)):
        if isinstance(node, ast.Name) and isinstance(node.ctx, ast.Store):
            yield where, node.id
        elif isinstance(node, ast.arg):
            yield where, node.arg
        elif not isinstance(node, ast.Name):
            yield where, node.name


def called(node):
    """The name of the function or method that is called, or None."""
    if not isinstance(node, ast.Call):
        return None
    return node.func.attr if isinstance(node.func, ast.Attribute) else getattr(node.func, "id", None)


def calls_within():
    """Each call, where it stands, and what it stands in."""
    for name, tree in trees():
        for around in ast.walk(tree):
            for node in ast.iter_child_nodes(around):
                if isinstance(node, ast.Call):
                    yield f"{name}:{node.lineno}", node, around


class Language(unittest.TestCase):
    def test_files_and_signs(self):
        for path in PACKAGE.iterdir():
            if path.name != "__pycache__":
                self.assertRegex(path.name, r"^([a-z0-9][a-z0-9_]*|__init__|__main__)\.py$", "L1, L14")
        self.assertTrue((PACKAGE / "__init__.py").is_file(), "L14")
        for path in files():
            text = path.read_bytes().decode("utf-8")
            self.assertRegex(text, r"\A[ -~\n]*\Z", f"L14 {path.name}")
            self.assertIsNone(UNUSED_WORDS.search(text), f"L17 {path.name}")
            self.assertLessEqual(len(text.splitlines()), 400, f"L10 {path.name}")
            self.assertLessEqual(max(map(len, text.splitlines())), 120, f"L10 {path.name}")

    def test_the_top_of_each_file(self):
        for name, tree in trees():
            self.assertIsNotNone(ast.get_docstring(tree), f"L3 {name}")
            for node in tree.body[1:]:
                self.assertIsInstance(node, TOP, f"L3 {name}:{node.lineno}")

    def test_imports(self):
        drawn = {}
        for where, node in nodes(ast.ImportFrom):
            self.assertEqual(node.level, 0, f"L2 {where}")
            self.assertRegex(node.module, r"^groupwalks\.[a-z_0-9]+$", f"L2, L16 {where}")
            self.assertNotIn("*", [alias.name for alias in node.names], f"L2 {where}")
            defined = ast.parse((PACKAGE / (node.module.split(".")[1] + ".py")).read_text(encoding="utf-8")).body
            names = [one.name for one in defined if isinstance(one, (ast.FunctionDef, ast.ClassDef))]
            names += [one.targets[0].id for one in defined if isinstance(one, ast.Assign)]
            self.assertLessEqual({alias.name for alias in node.names}, set(names), f"L16 {where}")
            drawn.setdefault(where.split(":")[0], set()).add(node.module.split(".")[1] + ".py")
        for _ in drawn:
            drawn = {name: others.union(*[drawn.get(other, set()) for other in others]) for name, others in
                     drawn.items()}
        for name, others in drawn.items():
            self.assertNotIn(name, others, "L16")

    def test_statements_and_expressions(self):
        for where, node in nodes(ast.stmt):
            self.assertIsInstance(node, STATEMENTS, f"L6 {where}")
        for where, node in nodes(ast.expr):
            self.assertIsInstance(node, EXPRESSIONS, f"L7 {where}")
        for where, node in nodes(ast.Constant):
            self.assertIn(type(node.value), (int, str, bool, type(None)), f"L7 {where}")
            if isinstance(node.value, str):
                self.assertNotIn("%", node.value, f"L27 {where}")
        for where, node in nodes(ast.BinOp):
            self.assertNotIsInstance(node.op, (ast.Div, ast.MatMult), f"L7 {where}")
            if isinstance(node.op, ast.Pow):
                self.assertIsInstance(node.right, ast.Constant, f"L27 {where}")
        for where, node in nodes(ast.ListComp):
            self.assertEqual(len(node.generators), 1, f"L7 {where}")
            self.assertLessEqual(len(node.generators[0].ifs), 1, f"L7 {where}")
        for where, node in nodes(ast.Assign):
            self.assertEqual(len(node.targets), 1, f"L6 {where}")
        for where, node in nodes((ast.While, ast.For)):
            self.assertEqual(node.orelse, [], f"L6 {where}")
        for where, node in nodes(ast.Try):
            self.assertEqual(node.finalbody, [], f"L6 {where}")

    def test_functions_and_classes(self):
        for where, node in nodes((ast.FunctionDef, ast.Lambda)):
            arguments = node.args
            self.assertEqual((arguments.vararg, arguments.kwarg), (None, None), f"L4 {where}")
            self.assertEqual((arguments.kwonlyargs, arguments.posonlyargs), ([], []), f"L4 {where}")
        for where, node in nodes((ast.FunctionDef, ast.ClassDef)):
            self.assertEqual(node.decorator_list, [], f"L4, L5 {where}")
            if isinstance(node, ast.FunctionDef):
                self.assertLessEqual(node.end_lineno - node.lineno + 1, 40, f"L10 {where}")
            else:
                self.assertLessEqual(len(node.bases), 1, f"L5 {where}")

    def test_names(self):
        barred = set(dir(builtins)) | set(UNUSED_NAMES)
        for where, name in bound_names():
            if name not in SPECIAL:
                self.assertRegex(name, r"^[A-Za-z][A-Za-z0-9_]*$", f"L12 {where}")
                self.assertNotIn(name, barred, f"L15, L17 {where}")
        for where, node in nodes(ast.Name):
            if hasattr(builtins, node.id):
                self.assertIn(node.id, OWN_NAMES, f"L8 {where}")
            self.assertNotIn(node.id, UNUSED_NAMES, f"L17 {where}")

    def test_methods(self):
        own = [node.name for where, node in nodes(ast.FunctionDef)]
        for where, node in nodes(ast.Call):
            if isinstance(node.func, ast.Attribute) and node.func.attr not in SPECIAL:
                self.assertIn(node.func.attr, METHODS + own, f"L25 {where}")

    def test_no_parameter_or_local_is_called_like_an_import_or_a_class(self):
        for name, tree in trees():
            taken = {alias.name for node in tree.body if isinstance(node, ast.ImportFrom) for alias in node.names}
            taken |= {node.name for node in tree.body if isinstance(node, ast.ClassDef)}
            for node in ast.walk(tree):
                if isinstance(node, ast.arg):
                    self.assertNotIn(node.arg, taken, f"L15 {name}:{node.lineno}")
                if isinstance(node, ast.Name) and isinstance(node.ctx, ast.Store):
                    self.assertNotIn(node.id, taken, f"L15 {name}:{node.lineno}")

    def test_is_stands_beside_none_and_truths_alone(self):
        for where, node in nodes(ast.Compare):
            for operator, right in zip(node.ops, node.comparators):
                if isinstance(operator, (ast.Is, ast.IsNot)):
                    self.assertIsInstance(right, ast.Constant, f"L20 {where}")
                    self.assertIn(right.value, (None, True, False), f"L20 {where}")

    def test_no_annotations(self):
        for where, node in nodes((ast.arg, ast.FunctionDef)):
            told = node.annotation if isinstance(node, ast.arg) else node.returns
            self.assertIsNone(told, f"L21 {where}")

    def test_lists_and_dicts_at_the_top_hold_plain_values_and_functions_above(self):
        for name, tree in trees():
            above = []
            for node in tree.body:
                if isinstance(node, ast.FunctionDef):
                    above.append(node.name)
                if isinstance(node, ast.Assign):
                    for part in list(ast.walk(node.value))[1:]:
                        self.assertIsInstance(part, (ast.Constant, ast.Name, ast.Tuple, ast.Load), f"L15 {name}")
                        if isinstance(part, ast.Name):
                            self.assertIn(part.id, above, f"L3 {name}:{part.lineno}")

    def test_what_is_walked_is_walked_on_the_spot(self):
        for where, node, around in calls_within():
            if called(node) in WALKED:
                if isinstance(around, (ast.For, ast.comprehension)):
                    self.assertIs(around.iter, node, f"L23 {where}")
                else:
                    self.assertIn(called(around), WALKING, f"L23 {where}")
                    self.assertIs(around.args[0], node, f"L23 {where}")

    def test_sets_are_not_kept(self):
        for where, node, around in calls_within():
            if called(node) in ("set", "frozenset"):
                if isinstance(around, ast.Compare):
                    self.assertIsInstance(around.ops[0], (ast.In, ast.NotIn, ast.Eq, ast.NotEq), f"L24 {where}")
                else:
                    self.assertIn(called(around), ("sorted", "len"), f"L24 {where}")
                    self.assertEqual(around.keywords, [], f"L24 {where}")
        self.assertEqual(nodes(ast.Set), [], "L13, L24")

    def test_keywords(self):
        for where, node in nodes(ast.Call):
            for keyword in node.keywords:
                self.assertIn(keyword.arg, KEYWORDS.get(called(node), ()), f"L22 {where}")

    def test_own_methods_and_values(self):
        taken = {name for kind in (str, int, list, tuple, dict, set, bytes) for name in dir(kind)}
        methods = [method.name for where, node in nodes(ast.ClassDef) for method in node.body if
                   isinstance(method, ast.FunctionDef) and method.name not in SPECIAL]
        values = [node.attr for where, node in nodes(ast.Attribute) if isinstance(node.ctx, ast.Store)]
        for name in methods + values:
            self.assertNotIn(name, taken, "L26")
            self.assertRegex(name, r"^[A-Za-z][A-Za-z0-9_]*$", "L12")
        self.assertEqual(set(methods) & set(values), set(), "L18")
        self.assertEqual(len(methods), len(set(methods)), "L18")
