"""Point 1 (no clock, no chance, no files, whole numbers only) and the plainest rules of the program's form."""

import ast
import os
import re
import unittest

PACKAGE = os.path.join(os.path.dirname(os.path.dirname(os.path.abspath(__file__))), "papercircle")
FREE_NAMES = (
    "len range enumerate zip min max sum abs sorted reversed int str bool list tuple dict set frozenset "
    "isinstance ord repr any all divmod Exception ValueError TypeError KeyError IndexError LookupError "
    "ZeroDivisionError ArithmeticError OverflowError RuntimeError NotImplementedError AttributeError StopIteration"
).split()
WORDS_OUT = (
    "type typing typing_extensions enum Enum IntEnum StrEnum Flag IntFlag Generic Protocol ABC ABCMeta "
    "namedtuple NamedTuple TypedDict TYPE_CHECKING abstractmethod"
).split()


def package_files():
    return sorted(name for name in os.listdir(PACKAGE) if name != "__pycache__")


def text_of(name):
    with open(os.path.join(PACKAGE, name), encoding="utf-8", newline="") as file:
        return file.read()


def package_nodes():
    return [(name, node) for name in package_files() for node in ast.walk(ast.parse(text_of(name)))]


def bound_names(tree):
    names = []
    for node in ast.walk(tree):
        if isinstance(node, (ast.FunctionDef, ast.ClassDef)):
            names.append(node.name)
        elif isinstance(node, ast.arg):
            names.append(node.arg)
        elif isinstance(node, ast.alias):
            names.append(node.asname or node.name)
        elif isinstance(node, ast.ExceptHandler) and node.name:
            names.append(node.name)
        elif isinstance(node, ast.Name) and isinstance(node.ctx, ast.Store):
            names.append(node.id)
    return names


class PlainTest(unittest.TestCase):
    def test_only_plain_files_lie_in_the_package(self):
        self.assertIn("__init__.py", package_files())
        for name in package_files():
            with self.subTest(name):
                self.assertRegex(name, r"\A(__init__|[a-z][a-z0-9_]*)\.py\Z")

    def test_nothing_is_drawn_from_outside(self):
        for name, node in package_nodes():
            with self.subTest(name):
                self.assertNotIsInstance(node, ast.Import)
                if isinstance(node, ast.ImportFrom):
                    self.assertEqual(node.level, 0)
                    self.assertRegex(node.module, r"\Apapercircle\.")

    def test_no_other_name_of_pythons_own(self):
        for name in package_files():
            tree = ast.parse(text_of(name))
            used = [node.id for node in ast.walk(tree) if isinstance(node, ast.Name)]
            with self.subTest(name):
                self.assertEqual(sorted(set(used) - set(bound_names(tree)) - set(FREE_NAMES)), [])

    def test_whole_numbers_only(self):
        for name, node in package_nodes():
            with self.subTest(name):
                self.assertNotIsInstance(node, ast.Div)
                if isinstance(node, ast.Constant):
                    self.assertNotIsInstance(node.value, (float, complex, bytes))

    def test_size(self):
        for name in package_files():
            rows = text_of(name).split("\n")
            with self.subTest(name):
                self.assertLessEqual(len(rows), 401)
                self.assertLessEqual(max(len(row) for row in rows), 120)
        for name, node in package_nodes():
            if isinstance(node, ast.FunctionDef):
                with self.subTest(name, function=node.name):
                    self.assertLessEqual(node.end_lineno - node.lineno + 1, 40)

    def test_signs_and_words(self):
        for name in package_files():
            text = text_of(name)
            with self.subTest(name):
                self.assertRegex(text, r"\A[ -~\n]*\Z")
                words = re.findall(r"\w+", text)
                self.assertEqual([word for word in words if word in WORDS_OUT], [])
                self.assertIsNone(re.search("dataclass|overload|contextmanager", text))


if __name__ == "__main__":
    unittest.main()
