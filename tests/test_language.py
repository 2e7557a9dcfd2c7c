"""The package keeps to the small part of Python that it is written in, as far as its source shows by itself.

Each check names the rule of the language that it stands for. What these don't see is still asked for.
"""

import ast
import builtins
import keyword
import re
import unittest
from pathlib import Path

PACKAGE = Path(__file__).resolve().parent.parent / "alikebodies"
ERRORS = """Exception ValueError TypeError KeyError IndexError LookupError ZeroDivisionError ArithmeticError
    OverflowError RuntimeError NotImplementedError AttributeError StopIteration""".split()
OWN_OF_PYTHON = """len range enumerate zip min max sum abs sorted reversed int str bool list tuple dict set frozenset
    isinstance ord repr any all divmod""".split() + ERRORS
METHODS = """append clear copy count endswith extend find get index insert isalnum isalpha isdigit islower isspace
    isupper items join keys ljust lower lstrip partition pop remove replace reverse rfind rjust rpartition rsplit
    rstrip setdefault split splitlines startswith strip update upper values zfill bit_length""".split()
OTHER_METHODS = {name for kind in (str, int, list, tuple, dict, set, bytes) for name in dir(kind)} - set(METHODS)
WORDS = """type typing typing_extensions enum Enum IntEnum StrEnum Flag IntFlag Generic Protocol ABC ABCMeta namedtuple
    NamedTuple TypedDict TYPE_CHECKING abstractmethod""".split()
UNUSED = """register mro elements open input version_info with_traceback add_note attrgetter breakpoint builtins compile
    copyright credits delattr dir eval exec exit gc getattr globals hasattr help id importlib license locals
    methodcaller os quit setattr super type vars sys""".split()
FORBIDDEN = (ast.With, ast.Match, ast.Delete, ast.Global, ast.Nonlocal, ast.Assert, ast.Yield, ast.YieldFrom,
             ast.AsyncFunctionDef, ast.Await, ast.SetComp, ast.DictComp, ast.GeneratorExp, ast.NamedExpr,
             ast.Starred, ast.Div, ast.MatMult, ast.AnnAssign, ast.Set)
SPECIAL = ["__init__", "__eq__", "__repr__", "__str__", "__len__"]


def files():
    return sorted(PACKAGE.rglob("*.py"))


def nodes():
    for path in files():
        for node in ast.walk(ast.parse(path.read_text())):
            yield f"{path.name}:{getattr(node, 'lineno', 0)}", node


def bound_names(tree):
    """Every name that a file binds, below its top too."""
    for node in ast.walk(tree):
        if isinstance(node, ast.Name) and isinstance(node.ctx, ast.Store):
            yield node.id
        elif isinstance(node, ast.arg):
            yield node.arg
        elif isinstance(node, (ast.FunctionDef, ast.ClassDef)):
            yield node.name
        elif isinstance(node, ast.ExceptHandler) and node.name:
            yield node.name


class Files(unittest.TestCase):
    def test_nothing_but_plain_files_of_a_fair_size(self):  # L1, L10, L14
        for path in PACKAGE.rglob("*"):
            if path.name != "__pycache__" and path.parent.name != "__pycache__":
                self.assertRegex(path.name, r"^(__init__|__main__|[a-z][a-z0-9_]*)\.py$")
                self.assertNotIn(path.stem, dir(builtins) + WORDS + ["test", "tests", "testing", "site", "conftest"])
        for path in files():
            rows = path.read_text().split("\n")
            self.assertLess(len(rows), 400)
            self.assertLessEqual(max(len(row) for row in rows), 120)
            self.assertTrue(all(sign == "\n" or " " <= sign <= "~" for sign in path.read_text()))

    def test_words_that_stand_nowhere(self):  # L17
        for path in files():
            text = path.read_text()
            self.assertIsNone(re.search(r"\b(" + "|".join(WORDS) + r")\b", text))
            self.assertIsNone(re.search(r"dataclass|overload|contextmanager", text))

    def test_what_stands_at_the_top(self):  # L3
        allowed = (ast.ImportFrom, ast.FunctionDef, ast.ClassDef, ast.Assign)
        for path in files():
            body = ast.parse(path.read_text()).body
            self.assertIsInstance(body[0].value, ast.Constant)
            self.assertTrue(all(isinstance(node, allowed) for node in body[1:]), path.name)

    def test_imports(self):  # L2, L16
        drawn = {}
        for path in files():
            drawn[path.stem] = []
            for node in ast.walk(ast.parse(path.read_text())):
                self.assertNotIsInstance(node, ast.Import)
                if isinstance(node, ast.ImportFrom):
                    package, module = node.module.split(".")
                    self.assertEqual((package, node.level), ("alikebodies", 0))
                    self.assertTrue(all(part.name != "*" and part.asname is None for part in node.names))
                    defined = ast.parse((PACKAGE / f"{module}.py").read_text()).body
                    names = [own.name for own in defined if isinstance(own, (ast.FunctionDef, ast.ClassDef))]
                    self.assertTrue(all(part.name in names for part in node.names))
                    drawn[path.stem].append(module)
        self.assertEqual(drawn["__init__"], [])
        while drawn:
            free = [name for name in drawn if not any(other in drawn for other in drawn[name])]
            self.assertNotEqual(free, [], "files that draw from one another")
            drawn = {name: others for name, others in drawn.items() if name not in free}


class Names(unittest.TestCase):
    def test_bound_names(self):  # L8, L12, L15, L17
        for path in files():
            tree = ast.parse(path.read_text())
            taken = [part.name for node in tree.body if isinstance(node, ast.ImportFrom) for part in node.names]
            classes = [node.name for node in tree.body if isinstance(node, ast.ClassDef)]
            names = list(bound_names(tree))
            for name in names:
                if name not in SPECIAL:
                    self.assertRegex(name, r"^[A-Za-z][A-Za-z0-9_]*$")
                    self.assertNotIn(name, taken + dir(builtins) + UNUSED)
            self.assertTrue(all(names.count(name) == 1 for name in classes))

    def test_names_that_are_used(self):  # L8
        for path in files():
            tree = ast.parse(path.read_text())
            own = set(bound_names(tree)) | {part.name for node in tree.body if isinstance(node, ast.ImportFrom)
                                            for part in node.names}
            for node in ast.walk(tree):
                if isinstance(node, ast.Name) and node.id not in own:
                    self.assertIn(node.id, OWN_OF_PYTHON, path.name)

    def test_methods_and_values(self):  # L17, L25, L26
        own = {node.name for where, node in nodes() if isinstance(node, ast.FunctionDef)}
        values = {node.attr for where, node in nodes()
                  if isinstance(node, ast.Attribute) and isinstance(node.ctx, ast.Store)}
        self.assertEqual(own & values, set())
        self.assertEqual((own | values) & OTHER_METHODS - set(SPECIAL), set())
        for where, node in nodes():
            if isinstance(node, ast.Attribute):
                self.assertTrue(node.attr in METHODS or node.attr in own | values, where)
                self.assertNotIn(node.attr, UNUSED + ["format", "format_map", "mro"], where)

    def test_the_documents_functions(self):  # L16
        names = ["faces", "face", "on", "over", "alike", "ways", "dual"]
        for path in files():
            if path.stem != "bodies":
                tops = [getattr(node, "name", "") for node in ast.parse(path.read_text()).body]
                self.assertFalse(set(tops) & set(names))


class Forms(unittest.TestCase):
    def test_statements_and_expressions(self):  # L4 to L7, L20, L21
        for where, node in nodes():
            self.assertNotIsInstance(node, FORBIDDEN, where)
            if isinstance(node, ast.Assign):
                self.assertEqual(len(node.targets), 1, where)
            if isinstance(node, (ast.For, ast.While)):
                self.assertEqual(node.orelse, [], where)
            if isinstance(node, ast.ListComp):
                self.assertEqual(len(node.generators), 1, where)
                self.assertLessEqual(len(node.generators[0].ifs), 1, where)
            if isinstance(node, ast.Constant):
                self.assertIsInstance(node.value, (int, str, bool, type(None)), where)
            if isinstance(node, ast.Compare) and isinstance(node.ops[0], (ast.Is, ast.IsNot)):
                self.assertIn(getattr(node.comparators[0], "value", 0), (None, True, False), where)

    def test_functions_and_classes(self):  # L4, L5, L10, L21
        for where, node in nodes():
            if isinstance(node, (ast.FunctionDef, ast.ClassDef)):
                self.assertEqual(node.decorator_list, [], where)
                self.assertFalse(keyword.issoftkeyword(node.name), where)
            if isinstance(node, ast.FunctionDef):
                self.assertLessEqual(node.end_lineno - node.lineno + 1, 40, where)
                given = node.args
                self.assertFalse(given.vararg or given.kwarg or given.kwonlyargs or given.posonlyargs, where)
                self.assertTrue(node.returns is None and not any(part.annotation for part in given.args), where)
            if isinstance(node, ast.ClassDef):
                self.assertTrue(all(isinstance(part, ast.FunctionDef) for part in node.body[1:]), where)

    def test_what_is_walked_at_once_and_sets(self):  # L22 to L24
        for path in files():
            tree = ast.parse(path.read_text())
            walked, held = set(), set()
            for node in ast.walk(tree):
                if isinstance(node, (ast.For, ast.comprehension)):
                    walked.add(node.iter)
                if isinstance(node, ast.Call) and isinstance(node.func, ast.Name):
                    walked.update(node.args[:1])
                    if node.func.id in ("sorted", "len"):
                        held.update(node.args[:1])
                if isinstance(node, ast.Compare):
                    held.update([node.left] + node.comparators)
                if isinstance(node, ast.BinOp):
                    held.update([node.left, node.right])
            for node in ast.walk(tree):
                if isinstance(node, ast.Call) and isinstance(node.func, ast.Name):
                    if node.func.id in ("zip", "enumerate", "reversed", "range"):
                        self.assertIn(node, walked, f"{path.name}:{node.lineno}")
                    if node.func.id in ("set", "frozenset"):
                        self.assertIn(node, held, f"{path.name}:{node.lineno}")


if __name__ == "__main__":
    unittest.main()
