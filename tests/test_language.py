"""The rules of the language that can be read off the package's files."""

import ast
import builtins
import re
import unittest
from pathlib import Path

PACKAGE = Path(__file__).resolve().parent.parent / "weighbridge"
FILES = sorted(PACKAGE.rglob("*.py"))

STATEMENTS = (ast.Assign, ast.AugAssign, ast.If, ast.While, ast.For, ast.Return, ast.Break, ast.Continue, ast.Pass,
              ast.Raise, ast.Try, ast.Expr, ast.FunctionDef, ast.ClassDef, ast.ImportFrom)
EXPRESSIONS = (ast.Constant, ast.List, ast.Tuple, ast.Dict, ast.BinOp, ast.UnaryOp, ast.BoolOp, ast.Compare, ast.IfExp,
               ast.Call, ast.Attribute, ast.Subscript, ast.Slice, ast.ListComp, ast.Name, ast.Lambda, ast.JoinedStr,
               ast.FormattedValue)
OWN_NAMES = ("len range enumerate zip min max sum abs sorted reversed int str bool list tuple dict set frozenset "
             "isinstance ord repr any all divmod").split()
METHODS = ("append clear copy count endswith extend find get index insert isalnum isalpha isdigit islower isspace "
           "isupper items join keys ljust lower lstrip partition pop remove replace reverse rfind rjust rpartition "
           "rsplit rstrip setdefault split splitlines startswith strip update upper values zfill bit_length").split()
WORDS = ("type typing typing_extensions enum Enum IntEnum StrEnum Flag IntFlag Generic Protocol ABC ABCMeta namedtuple "
         "NamedTuple TypedDict TYPE_CHECKING abstractmethod").split()
PLAIN_TRUTHS = [ast.dump(ast.Constant(value)) for value in (None, True, False)]
UNUSED_NAMES = "register mro elements open input version_info with_traceback add_note format format_map".split()


# A module has an __init__ of its own, which is no name of Python's that could be taken.
TAKEN = [name for name in dir(builtins) if name != "__init__"]


def trees():
    return [(path, ast.parse(path.read_text())) for path in FILES]


def nodes(*kinds):
    return [(path.name, node) for path, tree in trees() for node in ast.walk(tree) if isinstance(node, kinds)]


def bound_names(tree):
    names = [node.id for node in ast.walk(tree) if isinstance(node, ast.Name) and isinstance(node.ctx, ast.Store)]
    names += [node.arg for node in ast.walk(tree) if isinstance(node, ast.arg)]
    return names + [node.name for node in ast.walk(tree) if isinstance(node, (ast.FunctionDef, ast.ClassDef))]


class Files(unittest.TestCase):

    def test_there_are_files(self):
        self.assertIn(PACKAGE / "scale.py", FILES)
        self.assertIn(PACKAGE / "__init__.py", FILES)

    def test_nothing_else_lies_there(self):
        others = [path for path in PACKAGE.rglob("*") if "__pycache__" not in path.parts and path not in FILES]
        self.assertEqual([], others)

    def test_plain_names(self):
        for path in FILES:
            self.assertRegex(path.stem, r"^([a-z][a-z0-9_]*|__init__)$")
            self.assertNotRegex(path.stem, r"^(tests?|testing|test_.*|site|conftest|sitecustomize|usercustomize)$")
            self.assertNotIn(path.stem, TAKEN)
            self.assertNotIn(path.stem, WORDS)

    def test_sizes(self):
        for path in FILES:
            rows = path.read_text().split("\n")
            self.assertLessEqual(len(rows), 400, path)
            self.assertLessEqual(max(len(row) for row in rows), 120, path)
        for name, node in nodes(ast.FunctionDef):
            self.assertLessEqual(node.end_lineno - node.lineno + 1, 40, f"{name} {node.name}")

    def test_signs(self):
        for path in FILES:
            odd = [sign for sign in path.read_bytes() if sign != 10 and not 32 <= sign <= 126]
            self.assertEqual([], odd, path)

    def test_words_that_stand_nowhere(self):
        for path in FILES:
            text = path.read_text()
            self.assertEqual([], [word for word in re.findall(r"\w+", text) if word in WORDS], path)
            self.assertNotRegex(text, "dataclass|overload|contextmanager")


class Form(unittest.TestCase):

    def test_imports(self):
        for name, node in nodes(ast.Import, ast.ImportFrom):
            self.assertIsInstance(node, ast.ImportFrom, name)
            self.assertEqual(0, node.level, name)
            self.assertTrue((PACKAGE.parent / (node.module.replace(".", "/") + ".py")).is_file(), node.module)
            tree = ast.parse((PACKAGE.parent / (node.module.replace(".", "/") + ".py")).read_text())
            for alias in node.names:
                self.assertIn(alias.name, bound_names(tree), name)

    def test_no_two_files_draw_from_one_another(self):
        drawn = {"weighbridge." + path.stem: [node.module for node in tree.body if isinstance(node, ast.ImportFrom)]
                 for path, tree in trees()}
        while drawn:
            ready = [name for name in drawn if not any(other in drawn for other in drawn[name])]
            self.assertNotEqual([], ready, drawn)
            drawn = {name: others for name, others in drawn.items() if name not in ready}

    def test_statements_and_expressions(self):
        for name, node in nodes(ast.stmt):
            self.assertIsInstance(node, STATEMENTS, f"{name}:{node.lineno}")
        for name, node in nodes(ast.expr):
            self.assertIsInstance(node, EXPRESSIONS, f"{name}:{node.lineno}")

    def test_assignments_have_one_plain_target(self):
        for name, node in nodes(ast.Assign):
            self.assertEqual(1, len(node.targets), f"{name}:{node.lineno}")
            self.assertIsInstance(node.targets[0], (ast.Name, ast.Attribute, ast.Subscript), f"{name}:{node.lineno}")

    def test_the_top_of_a_file(self):
        for path, tree in trees():
            self.assertIsNotNone(ast.get_docstring(tree), path)
            for node in tree.body[1:]:
                self.assertIsInstance(node, (ast.ImportFrom, ast.Assign, ast.FunctionDef, ast.ClassDef), path)
                if isinstance(node, ast.Assign):
                    ast.literal_eval(node.value)

    def test_no_loop_has_an_else(self):
        for name, node in nodes(ast.For, ast.While):
            self.assertEqual([], node.orelse, f"{name}:{node.lineno}")

    def test_is_stands_beside_none_alone(self):
        for name, node in nodes(ast.Compare):
            for op, value in zip(node.ops, node.comparators):
                if isinstance(op, (ast.Is, ast.IsNot)):
                    self.assertIn(ast.dump(value), PLAIN_TRUTHS, f"{name}:{node.lineno}")

    def test_a_comprehension_has_one_for_and_at_most_one_if(self):
        for name, node in nodes(ast.ListComp):
            self.assertEqual(1, len(node.generators), f"{name}:{node.lineno}")
            self.assertLessEqual(len(node.generators[0].ifs), 1, f"{name}:{node.lineno}")

    def test_what_is_walked_at_once_is_not_kept(self):
        walked = [(name, node.iter) for name, node in nodes(ast.For, ast.comprehension)]
        walked += [(name, node.args[0]) for name, node in nodes(ast.Call)
                   if isinstance(node.func, ast.Name) and node.args]
        places = [(name, node.lineno, node.col_offset) for name, node in walked]
        for name, node in nodes(ast.Call):
            if isinstance(node.func, ast.Name) and node.func.id in ("zip", "enumerate", "reversed", "range"):
                self.assertIn((name, node.lineno, node.col_offset), places, f"{name}:{node.lineno}")

    def test_functions_are_plain(self):
        for name, node in nodes(ast.FunctionDef, ast.ClassDef):
            self.assertEqual([], node.decorator_list, name)
        for name, node in nodes(ast.arguments):
            self.assertEqual((None, None, [], []), (node.vararg, node.kwarg, node.kwonlyargs, node.posonlyargs), name)

    def test_no_division_but_into_whole_numbers(self):
        self.assertEqual([], nodes(ast.Div))
        for name, node in nodes(ast.Constant):
            self.assertIn(node.value.__class__, (int, str, bool, type(None)), name)


class Names(unittest.TestCase):

    def test_plain_words(self):
        for path, tree in trees():
            for name in bound_names(tree):
                self.assertRegex(name, r"^([A-Za-z][A-Za-z0-9_]*|__init__)$", path)
                self.assertNotIn(name, TAKEN, path)
                self.assertNotIn(name, UNUSED_NAMES, path)

    def test_python_names_that_are_listed(self):
        for name, node in nodes(ast.Name):
            if node.id in TAKEN:
                self.assertIn(node.id, OWN_NAMES, f"{name}:{node.lineno}")

    def test_a_name_is_bound_once_at_the_top(self):
        for path, tree in trees():
            names = [node.targets[0].id for node in tree.body if isinstance(node, ast.Assign)]
            names += [node.name for node in tree.body if isinstance(node, (ast.FunctionDef, ast.ClassDef))]
            names += [alias.name for node in tree.body if isinstance(node, ast.ImportFrom) for alias in node.names]
            self.assertEqual(len(names), len(set(names)), path)

    def test_no_local_is_called_like_an_import_or_class(self):
        for path, tree in trees():
            kept = [alias.name for node in tree.body if isinstance(node, ast.ImportFrom) for alias in node.names]
            kept += [node.name for node in tree.body if isinstance(node, ast.ClassDef)]
            for node in tree.body:
                if isinstance(node, ast.FunctionDef):
                    self.assertEqual([], [name for name in bound_names(node) if name in kept], path)

    def test_no_name_is_a_method_and_a_value(self):
        methods = [node.name for _, owner in nodes(ast.ClassDef) for node in owner.body
                   if isinstance(node, ast.FunctionDef)]
        values = [node.attr for _, node in nodes(ast.Attribute) if isinstance(node.ctx, ast.Store)]
        self.assertEqual([], [name for name in values if name in methods])
        taken = [name for kind in (str, int, list, dict, set, bytes) for name in dir(kind)]
        self.assertEqual([], [name for name in methods + values if name in taken and name != "__init__"])

    def test_methods_that_are_called(self):
        own = [node.name for _, owner in nodes(ast.ClassDef) for node in owner.body
               if isinstance(node, ast.FunctionDef)]
        for name, node in nodes(ast.Call):
            if isinstance(node.func, ast.Attribute):
                self.assertIn(node.func.attr, own + METHODS, f"{name}:{node.lineno}")


if __name__ == "__main__":
    unittest.main()
