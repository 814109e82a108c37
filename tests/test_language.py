"""The package keeps to the part of Python that it is to be written in."""

import ast
import builtins
import pathlib
import re
import unittest

PACKAGE = pathlib.Path(__file__).resolve().parent.parent / "filevault"
FILES = {path.name: path.read_text("utf-8") for path in sorted(PACKAGE.glob("*.py"))}
TREES = {name: ast.parse(text) for name, text in FILES.items()}

STATEMENTS = (ast.Assign, ast.AugAssign, ast.If, ast.While, ast.For, ast.Return, ast.Break, ast.Continue, ast.Pass,
              ast.Raise, ast.Try, ast.Expr, ast.FunctionDef, ast.ClassDef, ast.ImportFrom)
EXPRESSIONS = (ast.Constant, ast.List, ast.Tuple, ast.Dict, ast.BinOp, ast.UnaryOp, ast.BoolOp, ast.Compare, ast.IfExp,
               ast.Call, ast.Attribute, ast.Subscript, ast.Slice, ast.ListComp, ast.Name, ast.Lambda)
ERRORS = {"Exception", "ValueError", "TypeError", "KeyError", "IndexError", "LookupError", "ZeroDivisionError",
          "ArithmeticError", "OverflowError", "RuntimeError", "NotImplementedError", "StopIteration"}
BUILT_IN = ERRORS | set(
    "len range enumerate zip min max sum abs sorted reversed int str bool list tuple dict set frozenset isinstance "
    "ord repr any all divmod".split())
METHODS = set(
    "append clear copy count endswith extend find get index insert isalnum isalpha isdigit islower isspace isupper "
    "items join keys ljust lower lstrip partition pop remove replace reverse rfind rjust rpartition rsplit rstrip "
    "setdefault split splitlines startswith strip update upper values zfill bit_length".split())
UNUSED_NAMES = set(
    "register mro elements open input version_info with_traceback add_note attrgetter breakpoint builtins compile "
    "copyright credits delattr dir eval exec exit gc getattr globals hasattr help id importlib license locals "
    "methodcaller os quit setattr super type vars sys format format_map sort args encode".split())
UNUSED_WORDS = re.compile(
    r"\b(type|typing|typing_extensions|enum|Enum|IntEnum|StrEnum|Flag|IntFlag|Generic|Protocol|ABC|ABCMeta|namedtuple"
    r"|NamedTuple|TypedDict|TYPE_CHECKING|abstractmethod)\b|dataclass|overload|contextmanager")
OWN_DUNDERS = {"__init__", "__eq__", "__repr__", "__str__", "__len__"}
OF_PYTHON_S_VALUES = {name for value in (str, int, list, dict, set, bytes) for name in dir(value)}


def nodes(kind=ast.AST):
    return [(name, node) for name, tree in TREES.items() for node in ast.walk(tree) if isinstance(node, kind)]


def stored_names(tree):
    """The names that functions bind: parameters and locals."""
    found = []
    for function in ast.walk(tree):
        if isinstance(function, (ast.FunctionDef, ast.Lambda)):
            found += [argument.arg for argument in function.args.args]
            found += [node.id for node in ast.walk(function)
                      if isinstance(node, ast.Name) and isinstance(node.ctx, ast.Store)]
            found += [node.name for node in ast.walk(function) if isinstance(node, ast.ExceptHandler) and node.name]
    return found


def imported(tree):
    return {alias.name: node.module for node in tree.body if isinstance(node, ast.ImportFrom) for alias in node.names}


def tops(tree):
    found = [node.name for node in tree.body if isinstance(node, (ast.FunctionDef, ast.ClassDef))]
    return found + [node.targets[0].id for node in tree.body if isinstance(node, ast.Assign)]


class Files(unittest.TestCase):
    def test_only_files_with_plain_names_lie_in_the_package(self):
        for path in PACKAGE.iterdir():
            if path.name != "__pycache__":
                self.assertRegex(path.name, r"^([a-z][a-z0-9_]*|__init__|__main__)\.py$")
                self.assertNotIn(path.stem, dir(builtins))
        self.assertIn("__init__.py", FILES)

    def test_signs_and_sizes(self):
        for name, text in FILES.items():
            self.assertRegex(text, r"\A[ -~\n]*\n\Z", name)
            rows = text.split("\n")
            self.assertLessEqual(len(rows), 400, name)
            self.assertLessEqual(max(map(len, rows)), 120, name)

    def test_words_that_stand_nowhere(self):
        for name, text in FILES.items():
            self.assertIsNone(UNUSED_WORDS.search(text), name)

    def test_functions_of_at_most_40_lines(self):
        for name, node in nodes(ast.FunctionDef):
            self.assertLessEqual(node.end_lineno - node.lineno + 1, 40, (name, node.name))


class Modules(unittest.TestCase):
    def test_the_top_of_a_module(self):
        for name, tree in TREES.items():
            self.assertTrue(ast.get_docstring(tree), name)
            for node in tree.body[1:]:
                self.assertIsInstance(node, (ast.ImportFrom, ast.FunctionDef, ast.ClassDef, ast.Assign), name)
                if isinstance(node, ast.Assign):
                    self.assertNotIsInstance(ast.literal_eval(node.value), (list, dict, set), name)
            bound = tops(tree) + list(imported(tree))
            self.assertEqual(len(bound), len(set(bound)), name)

    def test_imports_draw_from_the_file_that_defines(self):
        for name, tree in TREES.items():
            for drawn, module in imported(tree).items():
                self.assertRegex(module, r"^filevault\.[a-z_]+$")
                self.assertIn(drawn, tops(TREES[module.split(".")[1] + ".py"]), name)
        for name, node in nodes(ast.ImportFrom):
            self.assertEqual(node.level, 0, name)
            self.assertTrue(all(alias.asname is None for alias in node.names), name)

    def test_no_two_files_draw_from_one_another(self):
        drawn = {name: {module.split(".")[1] + ".py" for module in imported(tree).values()}
                 for name, tree in TREES.items()}
        while drawn:
            free = [name for name, others in drawn.items() if not others & set(drawn)]
            self.assertTrue(free, drawn)
            for name in free:
                drawn.pop(name)


class Names(unittest.TestCase):
    def test_names_are_plain(self):
        for name, node in nodes():
            for word in (getattr(node, "id", None), getattr(node, "attr", None), getattr(node, "arg", None),
                         getattr(node, "name", None)):
                if isinstance(word, str) and word not in OWN_DUNDERS:
                    self.assertRegex(word, r"^[A-Za-z][A-Za-z0-9_]*$", name)
                    self.assertNotIn(word, UNUSED_NAMES, name)

    def test_built_in_names(self):
        for name, node in nodes(ast.Name):
            if node.id in dir(builtins):
                self.assertIn(node.id, BUILT_IN, (name, node.lineno))

    def test_parameters_and_locals_have_names_of_their_own(self):
        for name, tree in TREES.items():
            classes = {node.name for node in tree.body if isinstance(node, ast.ClassDef)}
            for word in stored_names(tree) + tops(tree):
                self.assertNotIn(word, dir(builtins), name)
            for word in stored_names(tree):
                self.assertNotIn(word, classes | set(imported(tree)), name)

    def test_methods_and_values(self):
        methods = {node.name for name, owner in nodes(ast.ClassDef) for node in owner.body
                   if isinstance(node, ast.FunctionDef)}
        values = {node.attr for name, node in nodes(ast.Attribute) if isinstance(node.ctx, ast.Store)}
        self.assertFalse(methods & values)
        self.assertFalse(values & OF_PYTHON_S_VALUES)
        self.assertFalse((methods - METHODS - OWN_DUNDERS) & OF_PYTHON_S_VALUES)
        called = {node.func.attr for name, node in nodes(ast.Call) if isinstance(node.func, ast.Attribute)}
        self.assertFalse(called - METHODS - methods)
        self.assertFalse({node.attr for name, node in nodes(ast.Attribute)} - METHODS - methods - values)


class Forms(unittest.TestCase):
    def test_statements_and_expressions(self):
        for name, node in nodes((ast.stmt, ast.expr)):
            self.assertIsInstance(node, STATEMENTS + EXPRESSIONS, (name, node.lineno))
        for name, node in nodes(ast.Constant):
            self.assertIn(type(node.value), (int, str, bool, type(None)), (name, node.lineno))
            self.assertNotIn("%", str(node.value), (name, node.lineno))
        for name, node in nodes((ast.Div, ast.MatMult)):
            self.fail((name, node))

    def test_one_plain_target(self):
        for name, node in nodes(ast.Assign):
            self.assertEqual(len(node.targets), 1, (name, node.lineno))
            self.assertIsInstance(node.targets[0], (ast.Name, ast.Attribute, ast.Subscript), (name, node.lineno))

    def test_expressions_by_themselves_are_calls(self):
        for name, tree in TREES.items():
            for node in ast.walk(tree):
                if isinstance(node, ast.Expr) and node != tree.body[0]:
                    self.assertIsInstance(node.value, ast.Call, (name, node.lineno))

    def test_functions_and_classes(self):
        for name, node in nodes(ast.FunctionDef):
            self.assertFalse(node.decorator_list or node.returns, (name, node.name))
            given = node.args
            self.assertFalse(given.vararg or given.kwarg or given.kwonlyargs or given.posonlyargs, (name, node.name))
        for name, node in nodes(ast.ClassDef):
            self.assertFalse(node.decorator_list or node.keywords, (name, node.name))
            self.assertLessEqual(len(node.bases), 1, (name, node.name))
            for inside in node.body:
                self.assertIsInstance(inside, (ast.FunctionDef, ast.Pass), (name, node.name))

    def test_loops_and_errors(self):
        for name, node in nodes((ast.For, ast.While)):
            self.assertFalse(node.orelse, (name, node.lineno))
        for name, node in nodes(ast.ListComp):
            self.assertEqual(len(node.generators), 1, (name, node.lineno))
            self.assertLessEqual(len(node.generators[0].ifs), 1, (name, node.lineno))
        for name, node in nodes(ast.Raise):
            self.assertIsInstance(node.exc, ast.Call, (name, node.lineno))
        for name, node in nodes(ast.Try):
            self.assertFalse(node.finalbody, (name, node.lineno))
        for name, node in nodes(ast.ExceptHandler):
            self.assertIsInstance(node.type, ast.Name, (name, node.lineno))
            self.assertNotIn(node.type.id, ERRORS, (name, node.lineno))

    def test_is_stands_beside_none_true_and_false(self):
        for name, node in nodes(ast.Compare):
            for operator, other in zip(node.ops, node.comparators):
                if isinstance(operator, (ast.Is, ast.IsNot)):
                    self.assertIsInstance(other, ast.Constant, (name, node.lineno))

    def test_no_function_calls_itself(self):
        for name, node in nodes(ast.FunctionDef):
            inside = {call.func.id for call in ast.walk(node)
                      if isinstance(call, ast.Call) and isinstance(call.func, ast.Name)}
            self.assertNotIn(node.name, inside, name)


if __name__ == "__main__":
    unittest.main()
