"""Point 1 (no clock, no chance, no files, whole numbers only) and the plainest rules of the program's form."""

import ast
import builtins
import os
import re
import unittest

PACKAGE = os.path.join(os.path.dirname(os.path.dirname(os.path.abspath(__file__))), "papercircle")
FREE_NAMES = (
    "len range enumerate zip min max sum abs sorted reversed int str bool list tuple dict set frozenset "
    "isinstance ord repr any all divmod Exception ValueError TypeError KeyError IndexError LookupError "
    "ZeroDivisionError ArithmeticError OverflowError RuntimeError NotImplementedError AttributeError StopIteration"
).split()
WORDS_OUT = (
    "type typing typing_extensions enum Enum IntEnum StrEnum Flag IntFlag Generic Protocol ABC ABCMeta "
    "namedtuple NamedTuple TypedDict TYPE_CHECKING abstractmethod"
).split()

STATEMENTS = (
    ast.Module, ast.Import, ast.ImportFrom, ast.FunctionDef, ast.ClassDef, ast.Assign, ast.AugAssign, ast.If, ast.While,
    ast.For, ast.Return, ast.Break, ast.Continue, ast.Pass, ast.Raise, ast.Try, ast.Expr,
)
EXPRESSIONS = (
    ast.Constant, ast.List, ast.Tuple, ast.Dict, ast.Set, ast.BinOp, ast.UnaryOp, ast.Compare, ast.BoolOp, ast.IfExp,
    ast.Call, ast.Attribute, ast.Subscript, ast.Slice, ast.ListComp, ast.JoinedStr, ast.FormattedValue, ast.Name,
    ast.Lambda,
)
PYTHONS_METHODS = (
    "append clear copy count endswith extend find get index insert isalnum isalpha isdigit islower isspace isupper "
    "items join keys ljust lower lstrip partition pop remove replace reverse rfind rjust rpartition rsplit rstrip "
    "setdefault split splitlines startswith strip update upper values zfill bit_length"
).split()
WALKED = "zip enumerate reversed range items keys values".split()
WALKERS = "list tuple dict sorted sum any all enumerate zip min max join".split()


def package_files():
    return sorted(name for name in os.listdir(PACKAGE) if name != "__pycache__")


def text_of(name):
    with open(os.path.join(PACKAGE, name), encoding="utf-8", newline="") as file:
        return file.read()


def package_nodes():
    return [(name, node) for name in package_files() for node in ast.walk(ast.parse(text_of(name)))]


def bound_names(tree):
    names = []
    for node in ast.walk(tree):
        if isinstance(node, (ast.FunctionDef, ast.ClassDef)):
            names.append(node.name)
        elif isinstance(node, ast.arg):
            names.append(node.arg)
        elif isinstance(node, ast.alias):
            names.append(node.asname or node.name)
        elif isinstance(node, ast.ExceptHandler) and node.name:
            names.append(node.name)
        elif isinstance(node, ast.Name) and isinstance(node.ctx, ast.Store):
            names.append(node.id)
    return names


def own_methods(tree):
    return [
        part.name
        for node in ast.walk(tree)
        if isinstance(node, ast.ClassDef)
        for part in node.body
        if isinstance(part, ast.FunctionDef)
    ]


def stored_values(tree):
    return [node.attr for node in ast.walk(tree) if isinstance(node, ast.Attribute) and isinstance(node.ctx, ast.Store)]


def called_name(node):
    if not isinstance(node, ast.Call):
        return None
    return node.func.id if isinstance(node.func, ast.Name) else getattr(node.func, "attr", None)


class PlainTest(unittest.TestCase):
    def test_only_plain_files_lie_in_the_package(self):
        self.assertIn("__init__.py", package_files())
        for name in package_files():
            with self.subTest(name):
                self.assertRegex(name, r"\A(__init__|[a-z][a-z0-9_]*)\.py\Z")

    def test_nothing_is_drawn_from_outside(self):
        for name, node in package_nodes():
            with self.subTest(name):
                self.assertNotIsInstance(node, ast.Import)
                if isinstance(node, ast.ImportFrom):
                    self.assertEqual(node.level, 0)
                    self.assertRegex(node.module, r"\Apapercircle\.")

    def test_no_other_name_of_pythons_own(self):
        for name in package_files():
            tree = ast.parse(text_of(name))
            used = [node.id for node in ast.walk(tree) if isinstance(node, ast.Name)]
            with self.subTest(name):
                self.assertEqual(sorted(set(used) - set(bound_names(tree)) - set(FREE_NAMES)), [])

    def test_whole_numbers_only(self):
        for name, node in package_nodes():
            with self.subTest(name):
                self.assertNotIsInstance(node, ast.Div)
                if isinstance(node, ast.Constant):
                    self.assertNotIsInstance(node.value, (float, complex, bytes))

    def test_size(self):
        for name in package_files():
            rows = text_of(name).split("\n")
            with self.subTest(name):
                self.assertLessEqual(len(rows), 401)
                self.assertLessEqual(max(len(row) for row in rows), 120)
        for name, node in package_nodes():
            if isinstance(node, ast.FunctionDef):
                with self.subTest(name, function=node.name):
                    self.assertLessEqual(node.end_lineno - node.lineno + 1, 40)

    def test_signs_and_words(self):
        for name in package_files():
            text = text_of(name)
            with self.subTest(name):
                self.assertRegex(text, r"\A[ -~\n]*\Z")
                words = re.findall(r"\w+", text)
                self.assertEqual([word for word in words if word in WORDS_OUT], [])
                self.assertIsNone(re.search("dataclass|overload|contextmanager", text))

    def test_only_the_named_statements_and_expressions(self):
        for name, node in package_nodes():
            with self.subTest(name, node=ast.dump(node)[:80]):
                if isinstance(node, (ast.stmt, ast.mod)):
                    self.assertIsInstance(node, STATEMENTS)
                if isinstance(node, ast.expr):
                    self.assertIsInstance(node, EXPRESSIONS)
                if isinstance(node, ast.Assign):
                    self.assertEqual(len(node.targets), 1)
                if isinstance(node, (ast.For, ast.While)):
                    self.assertEqual(node.orelse, [])
                if isinstance(node, ast.ListComp):
                    self.assertEqual(len(node.generators), 1)
                    self.assertLessEqual(len(node.generators[0].ifs), 1)
                if isinstance(node, ast.FormattedValue):
                    self.assertIsInstance(node.value, ast.Name)

    def test_plain_functions_and_classes(self):
        for name, node in package_nodes():
            if isinstance(node, (ast.FunctionDef, ast.ClassDef)):
                with self.subTest(name, defined=node.name):
                    self.assertEqual(node.decorator_list, [])
            if isinstance(node, ast.arguments):
                with self.subTest(name):
                    self.assertEqual((node.vararg, node.kwarg, node.kwonlyargs), (None, None, []))
            if isinstance(node, ast.ClassDef):
                with self.subTest(name, defined=node.name):
                    self.assertLessEqual(len(node.bases), 1)
                    for part in node.body:
                        self.assertNotIsInstance(part, ast.Assign)

    def test_plain_names(self):
        for name in package_files():
            tree = ast.parse(text_of(name))
            for bound in bound_names(tree) + stored_values(tree):
                with self.subTest(name, bound=bound):
                    self.assertTrue(bound == "__init__" or re.match(r"[A-Za-z]\w*\Z", bound))

    def test_names_of_pythons_own_keep_their_meaning(self):
        for name in package_files():
            tree = ast.parse(text_of(name))
            names = set(bound_names(tree)) - set(own_methods(tree))
            with self.subTest(name):
                self.assertEqual(sorted(names & set(dir(builtins))), [])

    def test_no_name_is_a_method_and_a_value(self):
        trees = [ast.parse(text_of(name)) for name in package_files()]
        methods = {method for tree in trees for method in own_methods(tree)}
        values = {value for tree in trees for value in stored_values(tree)}
        self.assertEqual(sorted(methods & values), [])

    def test_only_the_named_methods(self):
        trees = [ast.parse(text_of(name)) for name in package_files()]
        methods = {method for tree in trees for method in own_methods(tree)}
        for name, node in package_nodes():
            if isinstance(node, ast.Call) and isinstance(node.func, ast.Attribute):
                with self.subTest(name, called=node.func.attr):
                    self.assertIn(node.func.attr, methods | set(PYTHONS_METHODS))

    def test_is_stands_beside_none_true_and_false(self):
        for name, node in package_nodes():
            if isinstance(node, ast.Compare) and isinstance(node.ops[0], (ast.Is, ast.IsNot)):
                with self.subTest(name):
                    self.assertIsInstance(node.comparators[0], ast.Constant)
                    self.assertIn(node.comparators[0].value, (None, True, False))

    def test_walked_at_once(self):
        for name in package_files():
            tree = ast.parse(text_of(name))
            walked = [node.iter for node in ast.walk(tree) if isinstance(node, (ast.For, ast.comprehension))]
            for node in ast.walk(tree):
                if called_name(node) in WALKERS:
                    walked.extend(node.args)
            for node in ast.walk(tree):
                if called_name(node) in WALKED:
                    with self.subTest(name, row=node.lineno):
                        self.assertIn(node, walked)

    def test_no_two_files_draw_from_one_another(self):
        drawn = {}
        for name, node in package_nodes():
            if isinstance(node, ast.ImportFrom):
                drawn.setdefault(name, set()).add(node.module.split(".")[1] + ".py")
        ended = set()
        for turn in package_files():
            ended |= {name for name in package_files() if drawn.get(name, set()) <= ended}
        self.assertEqual(sorted(ended), package_files())


class NarrowRulesTest(unittest.TestCase):
    def trees(self):
        return [(name, ast.parse(text_of(name))) for name in package_files()]

    def test_the_top_of_a_module(self):
        plain = (ast.Constant, ast.List, ast.Tuple, ast.Dict, ast.Name, ast.Load)
        for name, tree in self.trees():
            defined = []
            for node in tree.body[1:]:
                with self.subTest(name, row=node.lineno):
                    self.assertIsInstance(node, (ast.ImportFrom, ast.FunctionDef, ast.ClassDef, ast.Assign))
                    if isinstance(node, ast.FunctionDef):
                        defined.append(node.name)
                    if isinstance(node, ast.Assign):
                        self.assertIsInstance(node.targets[0], ast.Name)
                        for part in ast.walk(node.value):
                            self.assertIsInstance(part, plain)
                            if isinstance(part, ast.Name):
                                self.assertIn(part.id, defined)
                            if part is not node.value:
                                self.assertNotIsInstance(part, (ast.List, ast.Dict))
            self.assertIsInstance(ast.get_docstring(tree), str)

    def test_each_name_of_the_top_is_bound_once(self):
        for name, tree in self.trees():
            bound = []
            for node in tree.body:
                if isinstance(node, (ast.FunctionDef, ast.ClassDef)):
                    bound.append(node.name)
                if isinstance(node, ast.Assign):
                    bound.append(node.targets[0].id)
                if isinstance(node, ast.ImportFrom):
                    bound.extend(alias.asname or alias.name for alias in node.names)
            with self.subTest(name):
                self.assertEqual(sorted(bound), sorted(set(bound)))

    def test_lists_and_dicts_of_the_top_are_only_read(self):
        for name, tree in self.trees():
            kept = [
                node.targets[0].id
                for node in tree.body
                if isinstance(node, ast.Assign) and isinstance(node.value, (ast.List, ast.Dict))
            ]
            read = []
            for node in ast.walk(tree):
                if isinstance(node, ast.Subscript) and isinstance(node.ctx, ast.Load):
                    read.append(node.value)
                if isinstance(node, ast.Compare):
                    read.extend(node.comparators)
            for node in ast.walk(tree):
                if isinstance(node, ast.Name) and isinstance(node.ctx, ast.Load) and node.id in kept:
                    with self.subTest(name, row=node.lineno):
                        self.assertIn(node, read)

    def test_no_local_is_called_like_a_class_or_an_import(self):
        for name, tree in self.trees():
            taken = {node.name for node in tree.body if isinstance(node, ast.ClassDef)}
            for node in tree.body:
                if isinstance(node, ast.ImportFrom):
                    taken |= {alias.asname or alias.name for alias in node.names}
            stored = {node.arg for node in ast.walk(tree) if isinstance(node, ast.arg)}
            for node in ast.walk(tree):
                if isinstance(node, ast.Name) and isinstance(node.ctx, ast.Store):
                    stored.add(node.id)
            with self.subTest(name):
                self.assertEqual(sorted(stored & taken), [])

    def test_names_that_are_not_used(self):
        nowhere = "register mro elements open input version_info with_traceback add_note format format_map".split()
        frames = r"(f|tb|co|gi|cr)_[a-z]+\Z"
        for name, node in package_nodes():
            used = getattr(node, "attr", None) or getattr(node, "id", None)
            if used:
                with self.subTest(name, used=used):
                    self.assertNotIn(used, nowhere)
                    self.assertIsNone(re.match(frames, used))

    def test_classes_are_called_or_raised(self):
        trees = self.trees()
        classes = {node.name for name, tree in trees for node in tree.body if isinstance(node, ast.ClassDef)}
        for name, tree in trees:
            fit = []
            for node in ast.walk(tree):
                if isinstance(node, ast.Call):
                    fit.append(node.func)
                if isinstance(node, ast.ClassDef):
                    fit.extend(node.bases)
                if isinstance(node, ast.ExceptHandler):
                    fit.append(node.type)
            for node in ast.walk(tree):
                if isinstance(node, ast.Name) and node.id in classes:
                    with self.subTest(name, row=node.lineno):
                        self.assertIn(node, fit)

    def test_errors(self):
        tree = ast.parse(text_of("errors.py"))
        own = {node.name for node in tree.body if isinstance(node, ast.ClassDef)}
        for name, node in package_nodes():
            if isinstance(node, ast.Raise):
                with self.subTest(name, row=node.lineno):
                    self.assertIn(called_name(node.exc), own)
            if isinstance(node, ast.Try):
                with self.subTest(name, row=node.lineno):
                    self.assertEqual(node.finalbody, [])
                    for handler in node.handlers:
                        self.assertIn(handler.type.id, own)

    def test_no_annotation(self):
        for name, node in package_nodes():
            if isinstance(node, ast.FunctionDef):
                self.assertIsNone(node.returns)
            if isinstance(node, ast.arg):
                self.assertIsNone(node.annotation)

    def test_keywords(self):
        allowed = {"sorted": ["key", "reverse"], "min": ["key", "default"], "max": ["key", "default"], "sum": ["start"]}
        allowed.update({"enumerate": ["start"], "zip": ["strict"]})
        for name, node in package_nodes():
            if isinstance(node, ast.Call):
                for keyword in node.keywords:
                    with self.subTest(name, row=node.lineno):
                        self.assertIn(keyword.arg, allowed.get(called_name(node), []))

    def test_sets_are_not_kept(self):
        for name, tree in self.trees():
            fit = [node.args[0] for node in ast.walk(tree) if called_name(node) in ("sorted", "len") and node.args]
            for node in ast.walk(tree):
                with self.subTest(name):
                    self.assertNotIsInstance(node, (ast.Set, ast.SetComp))
                    if called_name(node) in ("set", "frozenset"):
                        self.assertIn(node, fit)

    def test_own_methods_and_values(self):
        pythons = {name for kind in (str, int, list, dict, set, bytes) for name in dir(kind)}
        free_methods = set(PYTHONS_METHODS) | {"add", "discard", "__init__"}
        for name, tree in self.trees():
            with self.subTest(name):
                self.assertEqual(sorted(set(own_methods(tree)) & pythons - free_methods), [])
                self.assertEqual(sorted(set(stored_values(tree)) & pythons), [])

    def test_numbers_and_texts(self):
        for name, node in package_nodes():
            with self.subTest(name):
                self.assertNotIsInstance(node, ast.Pow)
                if isinstance(node, ast.Constant) and isinstance(node.value, str):
                    self.assertNotIn("%", node.value)
        for name in package_files():
            self.assertNotIn("\\", text_of(name))

    def test_no_method_with_two_underscores_but_init(self):
        for name, node in package_nodes():
            if isinstance(node, ast.FunctionDef) and node.name.startswith("__"):
                self.assertEqual(node.name, "__init__")
                self.assertFalse(any(isinstance(part, ast.Return) for part in ast.walk(node)))

    def test_methods_are_called_where_they_stand(self):
        trees = self.trees()
        methods = {method for name, tree in trees for method in own_methods(tree)} | set(PYTHONS_METHODS)
        values = {value for name, tree in trees for value in stored_values(tree)}
        for name, tree in trees:
            called = [node.func for node in ast.walk(tree) if isinstance(node, ast.Call)]
            for node in ast.walk(tree):
                if isinstance(node, ast.Attribute) and node.attr in methods - values:
                    with self.subTest(name, row=node.lineno):
                        self.assertIn(node, called)

    def test_no_tuple_is_parted_in_an_assignment(self):
        for name, node in package_nodes():
            if isinstance(node, ast.Assign):
                with self.subTest(name, row=node.lineno):
                    self.assertNotIsInstance(node.targets[0], (ast.Tuple, ast.List))

    def test_imports_come_from_the_file_that_defines_the_name(self):
        trees = dict(self.trees())
        for name, tree in trees.items():
            for node in tree.body:
                if isinstance(node, ast.ImportFrom):
                    source = trees[node.module.split(".")[1] + ".py"]
                    defined = {part.name for part in source.body if isinstance(part, (ast.FunctionDef, ast.ClassDef))}
                    defined |= {part.targets[0].id for part in source.body if isinstance(part, ast.Assign)}
                    for alias in node.names:
                        with self.subTest(name, drawn=alias.name):
                            self.assertIn(alias.name, defined)
                            self.assertIsNone(alias.asname)


if __name__ == "__main__":
    unittest.main()
