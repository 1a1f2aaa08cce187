"""The form of the package's own files: the rules L1 to L28, as far as a walk of the syntax shows them."""

import ast
import builtins
import functools
import pathlib
import re
import unittest

PACKAGE = pathlib.Path(__file__).resolve().parent.parent / "tablesteps"
FILES = sorted(path for path in PACKAGE.rglob("*.py"))

ERRORS = """Exception ValueError TypeError KeyError IndexError LookupError ZeroDivisionError ArithmeticError
OverflowError RuntimeError NotImplementedError AttributeError StopIteration""".split()
OWN_NAMES = ERRORS + """len range enumerate zip min max sum abs sorted reversed int str bool list tuple dict set
frozenset isinstance ord repr any all divmod""".split()
METHODS = """append clear copy count endswith extend find get index insert isalnum isalpha isdigit islower isspace
isupper items join keys ljust lower lstrip partition pop remove replace reverse rfind rjust rpartition rsplit rstrip
setdefault split splitlines startswith strip update upper values zfill bit_length""".split()
UNDERSCORED = "__init__ __eq__ __repr__ __str__ __len__ __all__ __version__".split()
BANNED_VALUES = "items keys values pop update append clear extend insert remove reverse setdefault sort args encode".split()
BANNED_NAMES = """register mro elements open input version_info with_traceback add_note format format_map attrgetter
breakpoint builtins compile copyright credits delattr dir eval exec exit gc getattr globals hasattr help id importlib
license locals methodcaller os quit setattr super type vars sys""".split()
BANNED_WORDS = """type typing typing_extensions enum Enum IntEnum StrEnum Flag IntFlag Generic Protocol ABC ABCMeta
namedtuple NamedTuple TypedDict TYPE_CHECKING abstractmethod""".split()
NODES = (
    ast.Module, ast.ImportFrom, ast.alias, ast.FunctionDef, ast.arguments, ast.arg, ast.ClassDef, ast.Assign,
    ast.AugAssign, ast.If, ast.While, ast.For, ast.Return, ast.Break, ast.Continue, ast.Pass, ast.Raise, ast.Try,
    ast.ExceptHandler, ast.Expr, ast.Constant, ast.List, ast.Tuple, ast.Dict, ast.BinOp, ast.UnaryOp, ast.BoolOp,
    ast.Compare, ast.IfExp, ast.Call, ast.keyword, ast.Attribute, ast.Subscript, ast.Slice, ast.ListComp,
    ast.comprehension, ast.JoinedStr, ast.FormattedValue, ast.Lambda, ast.Name, ast.expr_context, ast.boolop,
    ast.unaryop, ast.cmpop, ast.operator,
)


@functools.cache
def trees():
    return [(path, ast.parse(path.read_text("utf-8"))) for path in FILES]


def found(kind):
    return [(path, node) for path, tree in trees() for node in ast.walk(tree) if isinstance(node, kind)]


@functools.cache
def defined_methods():
    return {part.name for _, node in found(ast.ClassDef) for part in node.body if isinstance(part, ast.FunctionDef)}


class Files(unittest.TestCase):
    def test_only_plain_files(self):
        self.assertIn(PACKAGE / "__init__.py", FILES)
        for path in PACKAGE.rglob("*"):
            if "__pycache__" not in path.parts:
                self.assertRegex(path.name, r"\A[a-z0-9_]+\.py\Z")
                self.assertNotIn(path.stem, dir(builtins))
                self.assertFalse(path.stem.startswith("test") or path.stem in ("site", "conftest"))

    def test_signs_and_sizes(self):
        for path in FILES:
            text = path.read_bytes()
            self.assertTrue(all(byte == 10 or 32 <= byte <= 126 for byte in text), path)
            lines = text.decode("ascii").split("\n")
            self.assertLessEqual(len(lines), 400, path)
            self.assertLessEqual(max(len(line) for line in lines), 120, path)

    def test_words_that_stand_nowhere(self):
        for path in FILES:
            text = path.read_text("ascii")
            self.assertFalse(set(re.findall(r"\w+", text)) & set(BANNED_WORDS), path)
            self.assertNotRegex(text, "dataclass|overload|contextmanager")

    def test_functions_are_short(self):
        for path, node in found(ast.FunctionDef):
            self.assertLessEqual(node.end_lineno - node.lineno + 1, 40, (path, node.name))


class Syntax(unittest.TestCase):
    def test_only_known_parts(self):
        for path, node in found(ast.AST):
            self.assertIsInstance(node, NODES, (path, ast.dump(node)))
            self.assertNotIsInstance(node, (ast.Div, ast.MatMult), path)

    def test_statements(self):
        for path, tree in trees():
            for node in ast.walk(tree):
                where = (path, getattr(node, "lineno", 0))
                if isinstance(node, (ast.For, ast.While)):
                    self.assertEqual(node.orelse, [], where)
                if isinstance(node, ast.Try):
                    self.assertEqual(node.finalbody, [], where)
                if isinstance(node, ast.Assign):
                    self.assertEqual(len(node.targets), 1, where)
                if isinstance(node, ast.Expr) and node is not tree.body[0]:
                    self.assertIsInstance(node.value, ast.Call, where)

    def test_functions(self):
        for path, node in found((ast.FunctionDef, ast.Lambda)):
            taken = node.args
            self.assertFalse(taken.vararg or taken.kwarg or taken.kwonlyargs or taken.posonlyargs, path)
            self.assertFalse(getattr(node, "decorator_list", []), path)

    def test_comprehensions(self):
        for path, node in found(ast.ListComp):
            self.assertEqual(len(node.generators), 1, path)
            self.assertLessEqual(len(node.generators[0].ifs), 1, path)

    def test_constants(self):
        for path, node in found(ast.Constant):
            self.assertIn(type(node.value), (int, str, bool, type(None)), path)
            if isinstance(node.value, str):
                self.assertNotIn("%", node.value, path)

    def test_powers_are_written(self):
        for path, node in found(ast.BinOp):
            if isinstance(node.op, ast.Pow):
                self.assertIsInstance(node.right, ast.Constant, path)
                self.assertLessEqual(node.right.value, 64, path)

    def test_is_stands_beside_none_and_truths(self):
        for path, node in found(ast.Compare):
            for sign, right in zip(node.ops, node.comparators):
                if isinstance(sign, (ast.Is, ast.IsNot)):
                    self.assertIsInstance(right, ast.Constant, path)
                    self.assertIn(right.value, (None, True, False), path)

    def test_sets_and_walks_are_used_on_the_spot(self):
        for path, tree in trees():
            for node in ast.walk(tree):
                if isinstance(node, (ast.Assign, ast.Return)) and isinstance(node.value, ast.Call):
                    called = node.value.func
                    name = getattr(called, "id", None) or getattr(called, "attr", None)
                    self.assertNotIn(name, ("set", "frozenset", "zip", "enumerate", "reversed", "range", "items", "keys", "values"), path)

    def test_lists_and_dicts_of_a_files_top_are_only_read(self):
        for path, tree in trees():
            kept = {node.targets[0].id for node in tree.body
                    if isinstance(node, ast.Assign) and isinstance(node.value, (ast.List, ast.Dict))}
            for node in ast.walk(tree):
                for part in ast.iter_child_nodes(node):
                    if isinstance(part, ast.Name) and part.id in kept and isinstance(part.ctx, ast.Load):
                        self.assertIsInstance(node, (ast.Subscript, ast.Attribute, ast.Compare), (path, part.id))
                        self.assertIn(getattr(node, "attr", "get"), ("get", "items", "keys", "values"), path)


class Names(unittest.TestCase):
    def test_imports_are_the_packages_own(self):
        for path, node in found(ast.ImportFrom):
            self.assertEqual(node.level, 0, path)
            self.assertTrue(node.module.startswith("tablesteps."), path)
            source = ast.parse((PACKAGE.parent / (node.module.replace(".", "/") + ".py")).read_text("ascii"))
            bound = {part.name for part in source.body if isinstance(part, (ast.FunctionDef, ast.ClassDef))}
            bound |= {part.targets[0].id for part in source.body if isinstance(part, ast.Assign)}
            self.assertLessEqual({name.name for name in node.names}, bound, path)

    def test_no_two_files_draw_from_one_another(self):
        drawn = {path.stem: set() for path in FILES}
        for path, node in found(ast.ImportFrom):
            drawn[path.stem].add(node.module.split(".")[1])
        while drawn:
            free = [name for name, others in drawn.items() if not others & set(drawn)]
            self.assertTrue(free, drawn)
            for name in free:
                del drawn[name]

    def test_tops_of_files(self):
        allowed = (ast.ImportFrom, ast.FunctionDef, ast.ClassDef, ast.Assign)
        for path, tree in trees():
            self.assertIsNotNone(ast.get_docstring(tree), path)
            for node in tree.body[1:]:
                self.assertIsInstance(node, allowed, path)
            bound = [node.name for node in tree.body if isinstance(node, (ast.FunctionDef, ast.ClassDef))]
            bound += [node.targets[0].id for node in tree.body if isinstance(node, ast.Assign)]
            bound += [name.name for node in tree.body if isinstance(node, ast.ImportFrom) for name in node.names]
            self.assertEqual(len(bound), len(set(bound)), path)

    def test_names_are_plain(self):
        for path, node in found((ast.Name, ast.arg, ast.FunctionDef, ast.ClassDef, ast.Attribute)):
            name = getattr(node, "id", None) or getattr(node, "arg", None) or getattr(node, "attr", None) or node.name
            self.assertTrue(name in UNDERSCORED or not name.startswith("_"), (path, name))
            self.assertNotIn(name, BANNED_NAMES, path)

    def test_pythons_own_names(self):
        own = set(dir(builtins))
        for path, node in found(ast.Name):
            if node.id in own:
                self.assertIn(node.id, OWN_NAMES, path)
                self.assertIsInstance(node.ctx, ast.Load, (path, node.id))
        for path, node in found((ast.arg, ast.FunctionDef, ast.ClassDef)):
            self.assertNotIn(getattr(node, "arg", None) or node.name, own, path)

    def test_locals_are_not_called_like_imports_or_classes(self):
        for path, tree in trees():
            top = [name.name for node in tree.body if isinstance(node, ast.ImportFrom) for name in node.names]
            top += [node.name for node in tree.body if isinstance(node, ast.ClassDef)]
            for node in ast.walk(tree):
                if isinstance(node, ast.arg):
                    self.assertNotIn(node.arg, top, path)
                if isinstance(node, ast.Name) and isinstance(node.ctx, ast.Store):
                    self.assertNotIn(node.id, top, path)

    def test_methods_of_pythons_own(self):
        known = set(METHODS) | defined_methods()
        for path, node in found(ast.Call):
            if isinstance(node.func, ast.Attribute):
                self.assertIn(node.func.attr, known, path)

    def test_values_of_objects(self):
        for path, node in found(ast.Attribute):
            if isinstance(node.ctx, ast.Store):
                self.assertNotIn(node.attr, BANNED_VALUES, path)
                self.assertNotIn(node.attr, defined_methods(), path)

    def test_handlers_name_one_error_each(self):
        for path, node in found(ast.ExceptHandler):
            self.assertIsInstance(node.type, ast.Name, path)
            self.assertNotIn(node.type.id, ("Exception", "TypeError"), path)


if __name__ == "__main__":
    unittest.main()
