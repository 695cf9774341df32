"""The form of the package's files, as far as it is easily seen by going through them."""

import ast
import builtins
import pathlib
import re
import unittest

PACKAGE = pathlib.Path(__file__).resolve().parent.parent / "coastlights"
FILES = sorted(PACKAGE.glob("*.py"))

NODES = (
    "Module FunctionDef ClassDef arguments arg Return Assign AugAssign For While If Raise Try ExceptHandler Expr "
    "Pass Break Continue BoolOp BinOp UnaryOp Lambda IfExp Dict ListComp comprehension Compare Call Constant "
    "Attribute Subscript Name List Tuple Slice Load Store And Or Add Sub Mult FloorDiv Mod BitAnd BitOr BitXor "
    "LShift RShift Invert Not USub UAdd Eq NotEq Lt LtE Gt GtE Is IsNot In NotIn keyword"
).split()
OWN_OF_PYTHON = (
    "len range enumerate zip min max sum abs sorted reversed int str bool list tuple dict set isinstance ord any "
    "all divmod KeyError ValueError"
).split()
KEYWORDS = {
    "sorted": ("key", "reverse"), "min": ("key", "default"), "max": ("key", "default"),
    "sum": ("start",), "enumerate": ("start",), "zip": ("strict",),
}
# Where a walk over range, zip and their like may stand, but behind the "in" of a loop.
WALKERS = "list tuple dict sorted sum any all enumerate zip min max".split()
METHODS = (
    "append clear copy count extend find get index insert items keys pop remove reverse setdefault update values"
).split()
WORDS = re.compile(
    r"\b(type|typing|typing_extensions|enum|Enum|IntEnum|StrEnum|Flag|IntFlag|Generic|Protocol|ABC|ABCMeta|"
    r"namedtuple|NamedTuple|TypedDict|TYPE_CHECKING|abstractmethod)\b|dataclass|overload|contextmanager"
)


def nodes_of(tree, kind):
    return [node for node in ast.walk(tree) if isinstance(node, kind)]


def name_called(call):
    return getattr(call.func, "id", getattr(call.func, "attr", None))


def names_bound(tree):
    """Every name that is a def, a class, a parameter or assigned to."""
    defs = nodes_of(tree, (ast.FunctionDef, ast.ClassDef))
    stored = [node.id for node in nodes_of(tree, ast.Name) if isinstance(node.ctx, ast.Store)]
    return [node.name for node in defs] + [node.arg for node in nodes_of(tree, ast.arg)] + stored


class Form(unittest.TestCase):
    def each(self):
        texts = [path.read_text(encoding="utf-8") for path in FILES]
        return [(text, ast.parse(text)) for text in texts]

    def test_the_package_holds_its_files_alone(self):
        there = sorted(path.name for path in PACKAGE.iterdir() if path.name != "__pycache__")
        self.assertEqual(there, ["__init__.py", "watch.py"])

    def test_signs_and_sizes(self):
        for text, tree in self.each():
            self.assertRegex(text, r"\A[ -~\n]*\Z")
            lines = text.split("\n")
            self.assertLessEqual(len(lines), 400)
            self.assertLessEqual(max(len(line) for line in lines), 120)
            for function in nodes_of(tree, ast.FunctionDef):
                self.assertLessEqual(function.end_lineno - function.lineno + 1, 40, function.name)
            self.assertIsNone(WORDS.search(text))

    def test_only_the_forms_of_the_language(self):
        for text, tree in self.each():
            used = {type(node).__name__ for node in ast.walk(tree)}
            self.assertEqual(sorted(used - set(NODES)), [])
            for node in nodes_of(tree, ast.Constant):
                self.assertIn(type(node.value), (int, str, bool, type(None)))
                self.assertNotIn("%", str(node.value))
            for node in nodes_of(tree, ast.Assign):
                self.assertEqual(len(node.targets), 1)
            for node in nodes_of(tree, (ast.FunctionDef, ast.ClassDef)):
                self.assertEqual(node.decorator_list, [])

    def test_keywords_only_where_they_may_stand(self):
        for text, tree in self.each():
            for call in nodes_of(tree, ast.Call):
                allowed = KEYWORDS.get(getattr(call.func, "id", None), ())
                self.assertEqual([word.arg for word in call.keywords if word.arg not in allowed], [])

    def test_a_set_is_neither_kept_nor_walked(self):
        for text, tree in self.each():
            within = [call.args[0] for call in nodes_of(tree, ast.Call) if name_called(call) in ("sorted", "len")]
            for call in nodes_of(tree, ast.Call):
                if name_called(call) in ("set", "frozenset"):
                    self.assertIn(call, within)

    def test_what_is_made_to_be_walked_is_walked_at_once(self):
        for text, tree in self.each():
            walked = [node.iter for node in nodes_of(tree, (ast.For, ast.comprehension))]
            walked += [call.args[0] for call in nodes_of(tree, ast.Call) if name_called(call) in WALKERS]
            for call in nodes_of(tree, ast.Call):
                if name_called(call) in ("zip", "enumerate", "reversed", "range", "items", "keys", "values"):
                    self.assertIn(call, walked)

    def test_the_top_holds_plain_values(self):
        for text, tree in self.each():
            for node in tree.body:
                if isinstance(node, ast.Assign):
                    ast.literal_eval(node.value)
                else:
                    self.assertIsInstance(node, (ast.Expr, ast.FunctionDef, ast.ClassDef))

    def test_no_name_is_both_a_method_and_a_value(self):
        for text, tree in self.each():
            methods = {node.name for top in nodes_of(tree, ast.ClassDef) for node in nodes_of(top, ast.FunctionDef)}
            kept = {node.attr for node in nodes_of(tree, ast.Attribute) if isinstance(node.ctx, ast.Store)}
            self.assertEqual(sorted(methods & kept), [])

    def test_nothing_is_imported(self):
        for text, tree in self.each():
            self.assertEqual(nodes_of(tree, (ast.Import, ast.ImportFrom)), [])

    def test_every_name_is_its_own_or_one_that_may_be_used(self):
        for text, tree in self.each():
            bound = [name for name in names_bound(tree) if name != "__init__"]
            self.assertEqual([name for name in bound if hasattr(builtins, name)], [])
            for name in bound:
                self.assertRegex(name, r"\A[A-Za-z][A-Za-z0-9_]*\Z")
            used = {node.id for node in nodes_of(tree, ast.Name)}
            self.assertEqual(sorted(used - set(bound) - set(OWN_OF_PYTHON)), [])

    def test_every_method_is_its_own_or_one_that_may_be_used(self):
        for text, tree in self.each():
            methods = {node.name for node in nodes_of(tree, ast.FunctionDef)}
            called = {
                node.func.attr for node in nodes_of(tree, ast.Call) if isinstance(node.func, ast.Attribute)
            }
            self.assertEqual(sorted(called - methods - set(METHODS)), [])

    def test_what_stands_at_the_top_is_bound_once(self):
        for text, tree in self.each():
            top = [node.name for node in tree.body if isinstance(node, (ast.FunctionDef, ast.ClassDef))]
            top += [node.targets[0].id for node in tree.body if isinstance(node, ast.Assign)]
            self.assertEqual(len(top), len(set(top)))


if __name__ == "__main__":
    unittest.main()
