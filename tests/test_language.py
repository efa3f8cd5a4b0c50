"""Point 1 (no clock, no chance, no files, whole numbers only) and the plainest rules of the program's form."""

import ast
import builtins
import os
import re
import unittest

PACKAGE = os.path.join(os.path.dirname(os.path.dirname(os.path.abspath(__file__))), "papercircle")
FREE_NAMES = (
    "len range enumerate zip min max sum abs sorted reversed int str bool list tuple dict set frozenset "
    "isinstance ord repr any all divmod Exception ValueError TypeError KeyError IndexError LookupError "
    "ZeroDivisionError ArithmeticError OverflowError RuntimeError NotImplementedError AttributeError StopIteration"
).split()
WORDS_OUT = (
    "type typing typing_extensions enum Enum IntEnum StrEnum Flag IntFlag Generic Protocol ABC ABCMeta "
    "namedtuple NamedTuple TypedDict TYPE_CHECKING abstractmethod"
).split()

STATEMENTS = (
    ast.Module, ast.Import, ast.ImportFrom, ast.FunctionDef, ast.ClassDef, ast.Assign, ast.AugAssign, ast.If, ast.While,
    ast.For, ast.Return, ast.Break, ast.Continue, ast.Pass, ast.Raise, ast.Try, ast.Expr,
)
EXPRESSIONS = (
    ast.Constant, ast.List, ast.Tuple, ast.Dict, ast.Set, ast.BinOp, ast.UnaryOp, ast.Compare, ast.BoolOp, ast.IfExp,
    ast.Call, ast.Attribute, ast.Subscript, ast.Slice, ast.ListComp, ast.JoinedStr, ast.FormattedValue, ast.Name,
    ast.Lambda,
)
PYTHONS_METHODS = (
    "append clear copy count endswith extend find get index insert isalnum isalpha isdigit islower isspace isupper "
    "items join keys ljust lower lstrip partition pop remove replace reverse rfind rjust rpartition rsplit rstrip "
    "setdefault split splitlines startswith strip update upper values zfill bit_length"
).split()
WALKED = "zip enumerate reversed range items keys values".split()
WALKERS = "list tuple dict sorted sum any all enumerate zip min max join".split()


def package_files():
    return sorted(name for name in os.listdir(PACKAGE) if name != "__pycache__")


def text_of(name):
    with open(os.path.join(PACKAGE, name), encoding="utf-8", newline="") as file:
        return file.read()


def package_nodes():
    return [(name, node) for name in package_files() for node in ast.walk(ast.parse(text_of(name)))]


def bound_names(tree):
    names = []
    for node in ast.walk(tree):
        if isinstance(node, (ast.FunctionDef, ast.ClassDef)):
            names.append(node.name)
        elif isinstance(node, ast.arg):
            names.append(node.arg)
        elif isinstance(node, ast.alias):
            names.append(node.asname or node.name)
        elif isinstance(node, ast.ExceptHandler) and node.name:
            names.append(node.name)
        elif isinstance(node, ast.Name) and isinstance(node.ctx, ast.Store):
            names.append(node.id)
    return names


def own_methods(tree):
    return [
        part.name
        for node in ast.walk(tree)
        if isinstance(node, ast.ClassDef)
        for part in node.body
        if isinstance(part, ast.FunctionDef)
    ]


def stored_values(tree):
    return [node.attr for node in ast.walk(tree) if isinstance(node, ast.Attribute) and isinstance(node.ctx, ast.Store)]


def called_name(node):
    if not isinstance(node, ast.Call):
        return None
    return node.func.id if isinstance(node.func, ast.Name) else getattr(node.func, "attr", None)


class PlainTest(unittest.TestCase):
    def test_only_plain_files_lie_in_the_package(self):
        self.assertIn("__init__.py", package_files())
        for name in package_files():
            with self.subTest(name):
                self.assertRegex(name, r"\A(__init__|[a-z][a-z0-9_]*)\.py\Z")

    def test_nothing_is_drawn_from_outside(self):
        for name, node in package_nodes():
            with self.subTest(name):
                self.assertNotIsInstance(node, ast.Import)
                if isinstance(node, ast.ImportFrom):
                    self.assertEqual(node.level, 0)
                    self.assertRegex(node.module, r"\Apapercircle\.")

    def test_no_other_name_of_pythons_own(self):
        for name in package_files():
            tree = ast.parse(text_of(name))
            used = [node.id for node in ast.walk(tree) if isinstance(node, ast.Name)]
            with self.subTest(name):
                self.assertEqual(sorted(set(used) - set(bound_names(tree)) - set(FREE_NAMES)), [])

    def test_whole_numbers_only(self):
        for name, node in package_nodes():
            with self.subTest(name):
                self.assertNotIsInstance(node, ast.Div)
                if isinstance(node, ast.Constant):
                    self.assertNotIsInstance(node.value, (float, complex, bytes))

    def test_size(self):
        for name in package_files():
            rows = text_of(name).split("\n")
            with self.subTest(name):
                self.assertLessEqual(len(rows), 401)
                self.assertLessEqual(max(len(row) for row in rows), 120)
        for name, node in package_nodes():
            if isinstance(node, ast.FunctionDef):
                with self.subTest(name, function=node.name):
                    self.assertLessEqual(node.end_lineno - node.lineno + 1, 40)

    def test_signs_and_words(self):
        for name in package_files():
            text = text_of(name)
            with self.subTest(name):
                self.assertRegex(text, r"\A[ -~\n]*\Z")
                words = re.findall(r"\w+", text)
                self.assertEqual([word for word in words if word in WORDS_OUT], [])
                self.assertIsNone(re.search("dataclass|overload|contextmanager", text))

    def test_only_the_named_statements_and_expressions(self):
        for name, node in package_nodes():
            with self.subTest(name, node=ast.dump(node)[:80]):
                if isinstance(node, (ast.stmt, ast.mod)):
                    self.assertIsInstance(node, STATEMENTS)
                if isinstance(node, ast.expr):
                    self.assertIsInstance(node, EXPRESSIONS)
                if isinstance(node, ast.Assign):
                    self.assertEqual(len(node.targets), 1)
                if isinstance(node, (ast.For, ast.While)):
                    self.assertEqual(node.orelse, [])
                if isinstance(node, ast.ListComp):
                    self.assertEqual(len(node.generators), 1)
                    self.assertLessEqual(len(node.generators[0].ifs), 1)
                if isinstance(node, ast.FormattedValue):
                    self.assertIsInstance(node.value, ast.Name)

    def test_plain_functions_and_classes(self):
        for name, node in package_nodes():
            if isinstance(node, (ast.FunctionDef, ast.ClassDef)):
                with self.subTest(name, defined=node.name):
                    self.assertEqual(node.decorator_list, [])
            if isinstance(node, ast.arguments):
                with self.subTest(name):
                    self.assertEqual((node.vararg, node.kwarg, node.kwonlyargs), (None, None, []))
            if isinstance(node, ast.ClassDef):
                with self.subTest(name, defined=node.name):
                    self.assertLessEqual(len(node.bases), 1)
                    for part in node.body:
                        self.assertNotIsInstance(part, ast.Assign)

    def test_plain_names(self):
        for name in package_files():
            tree = ast.parse(text_of(name))
            for bound in bound_names(tree) + stored_values(tree):
                with self.subTest(name, bound=bound):
                    self.assertTrue(bound == "__init__" or re.match(r"[A-Za-z]\w*\Z", bound))

    def test_names_of_pythons_own_keep_their_meaning(self):
        for name in package_files():
            tree = ast.parse(text_of(name))
            names = set(bound_names(tree)) - set(own_methods(tree))
            with self.subTest(name):
                self.assertEqual(sorted(names & set(dir(builtins))), [])

    def test_no_name_is_a_method_and_a_value(self):
        trees = [ast.parse(text_of(name)) for name in package_files()]
        methods = {method for tree in trees for method in own_methods(tree)}
        values = {value for tree in trees for value in stored_values(tree)}
        self.assertEqual(sorted(methods & values), [])

    def test_only_the_named_methods(self):
        trees = [ast.parse(text_of(name)) for name in package_files()]
        methods = {method for tree in trees for method in own_methods(tree)}
        for name, node in package_nodes():
            if isinstance(node, ast.Call) and isinstance(node.func, ast.Attribute):
                with self.subTest(name, called=node.func.attr):
                    self.assertIn(node.func.attr, methods | set(PYTHONS_METHODS))

    def test_is_stands_beside_none_true_and_false(self):
        for name, node in package_nodes():
            if isinstance(node, ast.Compare) and isinstance(node.ops[0], (ast.Is, ast.IsNot)):
                with self.subTest(name):
                    self.assertIsInstance(node.comparators[0], ast.Constant)
                    self.assertIn(node.comparators[0].value, (None, True, False))

    def test_walked_at_once(self):
        for name in package_files():
            tree = ast.parse(text_of(name))
            walked = [node.iter for node in ast.walk(tree) if isinstance(node, (ast.For, ast.comprehension))]
            for node in ast.walk(tree):
                if called_name(node) in WALKERS:
                    walked.extend(node.args)
            for node in ast.walk(tree):
                if called_name(node) in WALKED:
                    with self.subTest(name, row=node.lineno):
                        self.assertIn(node, walked)

    def test_no_two_files_draw_from_one_another(self):
        drawn = {}
        for name, node in package_nodes():
            if isinstance(node, ast.ImportFrom):
                drawn.setdefault(name, set()).add(node.module.split(".")[1] + ".py")
        ended = set()
        for turn in package_files():
            ended |= {name for name in package_files() if drawn.get(name, set()) <= ended}
        self.assertEqual(sorted(ended), package_files())


if __name__ == "__main__":
    unittest.main()
