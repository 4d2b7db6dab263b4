"""The package held against those rules of the language that can be seen file by file."""

import ast
import builtins
import pathlib
import re
import unittest

FOLDER = pathlib.Path(__file__).resolve().parent.parent / "carvebed"

STATEMENTS = (
    ast.Assign, ast.AugAssign, ast.AnnAssign, ast.If, ast.While, ast.For, ast.Return, ast.Break, ast.Continue,
    ast.Pass, ast.Raise, ast.Try, ast.Expr, ast.FunctionDef, ast.ClassDef, ast.ImportFrom,
)
NOT_USED = (
    ast.Set, ast.SetComp, ast.DictComp, ast.GeneratorExp, ast.NamedExpr, ast.Starred, ast.Await, ast.Yield,
    ast.YieldFrom, ast.Div, ast.MatMult,
)
OWN_NAMES = """len range enumerate zip min max sum abs sorted reversed int str bool list tuple dict set frozenset
isinstance ord repr any all divmod Exception ValueError TypeError KeyError IndexError LookupError ZeroDivisionError
ArithmeticError OverflowError RuntimeError NotImplementedError AttributeError StopIteration""".split()
METHODS = """append clear copy count endswith extend find get index insert isalnum isalpha isdigit islower isspace
isupper items join keys ljust lower lstrip partition pop remove replace reverse rfind rjust rpartition rsplit rstrip
setdefault split splitlines startswith strip update upper values zfill bit_length __init__""".split()
WORDS = """type typing typing_extensions enum Enum IntEnum StrEnum Flag IntFlag Generic Protocol ABC ABCMeta namedtuple
NamedTuple TypedDict TYPE_CHECKING abstractmethod""".split()
UNDERSCORED = "__init__ __eq__ __repr__ __str__ __len__ __all__ __version__".split()
UNUSED_NAMES = "register mro elements open input version_info with_traceback add_note format format_map".split()
VALUES = "count index title find get join lower upper split strip copy add".split()
WALKED = "zip enumerate reversed range items keys values".split()
WALKERS = "list tuple dict sorted sum any all enumerate zip".split()
CHANGES = "append clear extend insert pop remove reverse setdefault update".split()
KEYWORDS = {"sorted": ("key", "reverse"), "min": ("key", "default"), "max": ("key", "default"), "sum": ("start",),
            "enumerate": ("start",), "zip": ("strict",)}


def files():
    return sorted(FOLDER.glob("*.py"))


def trees():
    return [(path.name, ast.parse(path.read_text())) for path in files()]


def nodes(kinds):
    return [(name, node) for name, tree in trees() for node in ast.walk(tree) if isinstance(node, kinds)]


def bound_names(node):
    if isinstance(node, ast.arg):
        return [node.arg]
    if isinstance(node, ast.Name) and isinstance(node.ctx, ast.Store):
        return [node.id]
    if isinstance(node, (ast.FunctionDef, ast.ClassDef)):
        return [node.name]
    if isinstance(node, ast.ExceptHandler) and node.name:
        return [node.name]
    return []


def top_names(part):
    if isinstance(part, ast.ImportFrom):
        return [alias.name for alias in part.names]
    if isinstance(part, ast.Assign):
        return [part.targets[0].id]
    return bound_names(part)


def called(node):
    """The name or method that a call asks; None of anything else."""
    if not isinstance(node, ast.Call):
        return None
    return getattr(node.func, "id", None) or getattr(node.func, "attr", None)


def is_walked(node, parent):
    if isinstance(parent, (ast.For, ast.comprehension)):
        return parent.iter is node
    if called(parent) in WALKERS:
        return parent.args[0] is node
    return called(parent) in ("min", "max", "join") and parent.args == [node]


class FilesTest(unittest.TestCase):
    def test_names_of_files(self):
        for path in FOLDER.iterdir():
            if path.name != "__pycache__":
                self.assertRegex(path.name, r"\A([a-z][a-z0-9_]*|__init__|__main__)\.py\Z")
        self.assertTrue((FOLDER / "__init__.py").is_file())

    def test_signs_and_sizes(self):
        for path in files():
            rows = path.read_text().split("\n")
            self.assertLessEqual(len(rows), 401, path.name)
            for row in rows:
                self.assertLessEqual(len(row), 120, (path.name, row))
                self.assertRegex(row, r"\A[ -~]*\Z", path.name)

    def test_sizes_of_functions(self):
        for name, node in nodes(ast.FunctionDef):
            self.assertLessEqual(node.end_lineno - node.lineno + 1, 40, (name, node.name))

    def test_words_that_stand_nowhere(self):
        for path in files():
            found = re.findall(r"[A-Za-z0-9_]+", path.read_text())
            self.assertEqual([word for word in found if word in WORDS], [], path.name)
            self.assertNotRegex(path.read_text(), "dataclass|overload|contextmanager", path.name)


class FormTest(unittest.TestCase):
    def test_statements(self):
        for name, node in nodes(ast.stmt):
            self.assertIsInstance(node, STATEMENTS, (name, node.lineno))

    def test_what_is_not_used(self):
        self.assertEqual([(name, node) for name, node in nodes(NOT_USED)], [])

    def test_parts_of_statements(self):
        for name, node in nodes((ast.For, ast.While)):
            self.assertEqual(node.orelse, [], (name, node.lineno))
        for name, node in nodes(ast.Try):
            self.assertEqual(node.finalbody, [], (name, node.lineno))
            self.assertNotIn(None, [handler.type for handler in node.handlers], (name, node.lineno))
        for name, node in nodes(ast.Assign):
            self.assertEqual(len(node.targets), 1, (name, node.lineno))
        for name, node in nodes(ast.ListComp):
            self.assertEqual(len(node.generators), 1, (name, node.lineno))
            self.assertLessEqual(len(node.generators[0].ifs), 1, (name, node.lineno))

    def test_functions_and_classes(self):
        for name, node in nodes((ast.FunctionDef, ast.ClassDef)):
            self.assertEqual(node.decorator_list, [], (name, node.lineno))
        for name, node in nodes(ast.arguments):
            self.assertEqual((node.vararg, node.kwarg, node.kwonlyargs), (None, None, []), name)
        for name, node in nodes(ast.ClassDef):
            self.assertLessEqual(len(node.bases), 1, (name, node.lineno))
            for part in node.body:
                self.assertNotIsInstance(part, (ast.Assign, ast.AnnAssign), (name, part.lineno))

    def test_values(self):
        for name, node in nodes(ast.Constant):
            self.assertNotIsInstance(node.value, (float, complex, bytes), (name, node.lineno))
            if isinstance(node.value, str):
                self.assertNotIn("%", node.value, (name, node.lineno))

    def test_braces_of_texts_hold_plain_names(self):
        for name, node in nodes(ast.FormattedValue):
            self.assertIsInstance(node.value, ast.Name, (name, node.lineno))

    def test_is_stands_beside_none_and_truths_alone(self):
        for name, node in nodes(ast.Compare):
            if isinstance(node.ops[0], (ast.Is, ast.IsNot)):
                self.assertIsInstance(node.comparators[0], ast.Constant, (name, node.lineno))


class NamesTest(unittest.TestCase):
    def test_imports(self):
        own = [path.stem for path in files()]
        for name, node in nodes((ast.Import, ast.ImportFrom)):
            if name != "__main__.py":
                self.assertIsInstance(node, ast.ImportFrom, (name, node.lineno))
                self.assertEqual(node.level, 0, (name, node.lineno))
                self.assertIn(node.module, ["carvebed." + stem for stem in own], (name, node.lineno))

    def test_names_that_are_bound(self):
        for name, node in nodes(ast.AST):
            for bound in bound_names(node):
                self.assertTrue(bound in UNDERSCORED or not bound.startswith("_"), (name, bound))
                self.assertTrue(isinstance(node, ast.FunctionDef) or bound not in vars(builtins), (name, bound))
                self.assertNotIn(bound, UNUSED_NAMES, (name, bound))

    def test_names_of_pythons_own(self):
        for name, node in nodes(ast.Name):
            if name != "__main__.py" and node.id in vars(builtins):
                self.assertIn(node.id, OWN_NAMES, (name, node.lineno))

    def test_methods(self):
        own = [node.name for name, node in nodes(ast.FunctionDef)]
        for name, node in nodes(ast.Attribute):
            self.assertNotIn(node.attr, UNUSED_NAMES, (name, node.lineno))
        for name, node in nodes(ast.Call):
            if isinstance(node.func, ast.Attribute):
                self.assertIn(node.func.attr, METHODS + own, (name, node.lineno))

    def test_values_are_given_through_a_local_name(self):
        for name, tree in trees():
            tops = [one for part in tree.body for one in top_names(part)]
            for node in ast.walk(tree):
                if isinstance(node, ast.Attribute) and isinstance(node.ctx, ast.Store):
                    self.assertIsInstance(node.value, ast.Name, (name, node.lineno))
                    self.assertNotIn(node.value.id, tops, (name, node.lineno))

    def test_no_name_is_a_method_here_and_a_value_there(self):
        given = [node.attr for name, node in nodes(ast.Attribute) if isinstance(node.ctx, ast.Store)]
        methods = [part.name for name, node in nodes(ast.ClassDef) for part in node.body
                   if isinstance(part, ast.FunctionDef)]
        self.assertEqual([attr for attr in given if attr in methods], [])
        pythons = [attr for kind in (str, int, list, dict, set, bytes, tuple) for attr in dir(kind)]
        self.assertEqual([attr for attr in given if attr in pythons and attr not in VALUES], [])
        self.assertEqual([attr for attr in methods if attr in pythons and attr not in METHODS + ["add", "discard"]], [])

    def test_no_local_is_called_like_a_class_or_an_import_of_its_file(self):
        for name, tree in trees():
            kept = [part.name for part in ast.walk(tree) if isinstance(part, (ast.ClassDef, ast.alias))]
            self.assertEqual(len(set(kept)), len(kept), name)
            bound = [one for part in ast.walk(tree) if not isinstance(part, ast.ClassDef) for one in bound_names(part)]
            self.assertEqual([one for one in bound if one in kept], [], name)

    def test_each_name_of_a_files_top_is_bound_once(self):
        for name, tree in trees():
            bound = [one for part in tree.body for one in top_names(part)]
            self.assertEqual(len(set(bound)), len(bound), name)

    def test_imports_from_the_very_file_and_never_round(self):
        tops = {name[:-3]: [one for part in tree.body for one in top_names(part)] for name, tree in trees()}
        drawn = {stem: [] for stem in tops}
        for name, node in nodes(ast.ImportFrom):
            stem = node.module.split(".")[1]
            drawn[name[:-3]].append(stem)
            for alias in node.names:
                self.assertIn(alias.name, tops[stem], name)
        while drawn:
            free = [stem for stem in drawn if not [one for one in drawn[stem] if one in drawn]]
            self.assertNotEqual(free, [], drawn)
            drawn = {stem: drawn[stem] for stem in drawn if stem not in free}


class WalksTest(unittest.TestCase):
    def test_walked_at_once(self):
        for name, tree in trees():
            parents = {id(child): part for part in ast.walk(tree) for child in ast.iter_child_nodes(part)}
            for node in ast.walk(tree):
                if isinstance(node, ast.Call) and called(node) in WALKED:
                    self.assertTrue(is_walked(node, parents[id(node)]), (name, node.lineno))

    def test_what_a_loop_walks_is_not_changed_in_it(self):
        for name, loop in nodes(ast.For):
            walked = [ast.dump(part).replace("Store", "Load") for part in ast.walk(loop.iter)
                      if isinstance(part, (ast.Name, ast.Attribute))]
            for part in [one for row in loop.body for one in ast.walk(row)]:
                touched = None
                if isinstance(part, ast.Subscript) and isinstance(part.ctx, ast.Store):
                    touched = part.value
                if isinstance(part, ast.Call) and called(part) in CHANGES:
                    touched = part.func.value
                if touched is not None:
                    self.assertNotIn(ast.dump(touched), walked, (name, part.lineno))

    def test_sets_are_asked_on_the_spot(self):
        for name, tree in trees():
            parents = {id(child): part for part in ast.walk(tree) for child in ast.iter_child_nodes(part)}
            for node in ast.walk(tree):
                if isinstance(node, ast.Call) and called(node) in ("set", "frozenset"):
                    parent = parents[id(node)]
                    self.assertTrue(isinstance(parent, ast.Compare) or called(parent) in ("sorted", "len"), name)

    def test_keywords(self):
        for name, node in nodes(ast.Call):
            for keyword in node.keywords:
                self.assertIn(keyword.arg, KEYWORDS.get(called(node), ()), (name, node.lineno))

    def test_rows_by_themselves_are_calls(self):
        for name, tree in trees():
            for node in ast.walk(tree):
                if isinstance(node, ast.Expr) and node != tree.body[0]:
                    self.assertIsInstance(node.value, ast.Call, (name, node.lineno))

    def test_errors_that_are_taken_are_the_programs_own(self):
        own = [node.name for name, node in nodes(ast.ClassDef)]
        for name, node in nodes(ast.ExceptHandler):
            self.assertIn(node.type.id, own + ["KeyError", "ZeroDivisionError", "StopIteration"], (name, node.lineno))

    def test_the_top_of_a_file(self):
        for name, tree in trees():
            for part in tree.body[1:]:
                self.assertIsInstance(part, (ast.ImportFrom, ast.FunctionDef, ast.ClassDef, ast.Assign), name)
                if isinstance(part, ast.Assign) and isinstance(part.value, (ast.List, ast.Dict)):
                    inner = [one for one in ast.walk(part.value) if isinstance(one, (ast.List, ast.Dict))]
                    self.assertEqual(len(inner), 1, (name, part.lineno))


if __name__ == "__main__":
    unittest.main()
