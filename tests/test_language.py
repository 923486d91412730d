"""The package keeps to the part of Python that it may use, as far as a look at its files can tell."""

import ast
import builtins
import re
import unittest
from pathlib import Path

PACKAGE = Path(__file__).resolve().parent.parent / "policyturn"
FILES = sorted(path for path in PACKAGE.rglob("*") if "__pycache__" not in path.parts)

ALLOWED_NODES = (
    ast.Module, ast.FunctionDef, ast.ClassDef, ast.Lambda, ast.arguments, ast.arg, ast.Return, ast.Assign, ast.AugAssign,
    ast.For, ast.While, ast.If, ast.Raise, ast.Try, ast.ExceptHandler, ast.ImportFrom, ast.alias, ast.Expr, ast.Pass,
    ast.Break, ast.Continue, ast.BoolOp, ast.BinOp, ast.UnaryOp, ast.IfExp, ast.Dict, ast.ListComp, ast.comprehension,
    ast.Compare, ast.Call, ast.keyword, ast.JoinedStr, ast.FormattedValue, ast.Constant, ast.Attribute, ast.Subscript,
    ast.Name, ast.List, ast.Tuple, ast.Slice, ast.expr_context, ast.boolop, ast.operator, ast.unaryop, ast.cmpop,
)
ALLOWED_BUILTINS = set(
    "len range enumerate zip min max sum abs sorted reversed int str bool list tuple dict set isinstance ord repr any all"
    " divmod Exception ValueError KeyError IndexError LookupError ZeroDivisionError NotImplementedError".split())
ALLOWED_METHODS = set(
    "append clear copy count endswith extend find get index insert isalnum isalpha isdigit islower isspace isupper items"
    " join keys ljust lower lstrip partition pop remove replace reverse rfind rjust rpartition rsplit rstrip setdefault"
    " split splitlines startswith strip update upper values zfill bit_length".split())
FORBIDDEN_WORDS = set(
    "type typing typing_extensions enum Enum IntEnum StrEnum Flag IntFlag Generic Protocol ABC ABCMeta namedtuple"
    " NamedTuple TypedDict TYPE_CHECKING abstractmethod".split())
FORBIDDEN_NAMES = set(
    "register mro elements open input version_info with_traceback add_note format format_map".split())
OWN_DOUBLE = {"__init__", "__eq__", "__repr__", "__str__", "__len__"}


def nodes():
    for path in FILES:
        for node in ast.walk(ast.parse(path.read_text())):
            yield path.name, node


def python_methods():
    names = set()
    for kind in (str, int, list, dict, set, bytes, tuple, bool):
        names |= set(dir(kind))
    return names


class Files(unittest.TestCase):
    def test_names(self):
        self.assertTrue(FILES)
        for path in FILES:
            self.assertRegex(path.name, r"^([a-z][a-z0-9_]*|__init__|__main__)\.py$")
            self.assertNotIn(path.stem, dir(builtins))

    def test_signs_and_sizes(self):
        for path in FILES:
            text = path.read_bytes()
            self.assertTrue(all(sign == 10 or 32 <= sign <= 126 for sign in text), path)
            lines = text.decode().split("\n")
            self.assertLessEqual(len(lines), 400, path)
            self.assertLessEqual(max(len(line) for line in lines), 120, path)

    def test_words_that_stand_nowhere(self):
        for path in FILES:
            found = set(re.findall(r"[A-Za-z_0-9]+", path.read_text())) & FORBIDDEN_WORDS
            self.assertEqual(found, set(), path)
            self.assertNotRegex(path.read_text(), "dataclass|overload|contextmanager")


class Tops(unittest.TestCase):
    def test_what_stands_at_a_files_top(self):
        for path in FILES:
            tree = ast.parse(path.read_text())
            self.assertIsNotNone(ast.get_docstring(tree), path)
            defined = set()
            bound = []
            for node in tree.body[1:]:
                self.assertIsInstance(node, (ast.ImportFrom, ast.FunctionDef, ast.ClassDef, ast.Assign), path)
                if isinstance(node, ast.FunctionDef):
                    defined.add(node.name)
                if isinstance(node, ast.Assign):
                    self.assert_plain(node.value, defined, path)
                    bound.append(node.targets[0].id)
                elif isinstance(node, ast.ImportFrom):
                    bound += [alias.name for alias in node.names]
                else:
                    bound.append(node.name)
            self.assertEqual(sorted(bound), sorted(set(bound)), path)

    def assert_plain(self, value, defined, path):
        for node in ast.walk(value):
            if isinstance(node, ast.Name):
                self.assertIn(node.id, defined, path)
            elif node is not value:
                self.assertIsInstance(node, (ast.Constant, ast.Tuple, ast.UnaryOp, ast.USub, ast.Load), path)

    def test_a_list_or_dict_there_is_only_read(self):
        for path in FILES:
            tree = ast.parse(path.read_text())
            kept = {node.targets[0].id for node in tree.body
                    if isinstance(node, ast.Assign) and isinstance(node.value, (ast.Dict, ast.List))}
            read = set()
            for node in ast.walk(tree):
                if isinstance(node, ast.Subscript) and isinstance(node.ctx, ast.Load):
                    read.add(node.value)
                elif isinstance(node, ast.Compare) and isinstance(node.ops[0], (ast.In, ast.NotIn)):
                    read.add(node.comparators[0])
            for node in ast.walk(tree):
                if isinstance(node, ast.Name) and node.id in kept and isinstance(node.ctx, ast.Load):
                    self.assertIn(node, read, (path, node.lineno))

    def test_names_are_drawn_from_the_file_that_defines_them(self):
        defined = {}
        for path in FILES:
            defined[path.stem] = {getattr(node, "name", None) or node.targets[0].id
                                  for node in ast.parse(path.read_text()).body
                                  if isinstance(node, (ast.FunctionDef, ast.ClassDef, ast.Assign))}
        for name, node in nodes():
            if isinstance(node, ast.ImportFrom):
                for alias in node.names:
                    self.assertIn(alias.name, defined[node.module.split(".")[1]], name)
                    self.assertIsNone(alias.asname)


class Nodes(unittest.TestCase):
    def test_kinds(self):
        for name, node in nodes():
            self.assertIsInstance(node, ALLOWED_NODES, (name, getattr(node, "lineno", 0)))
            self.assertNotIsInstance(node, (ast.Div, ast.MatMult), name)
            if isinstance(node, ast.Constant):
                self.assertIn(type(node.value), (int, str, bool, type(None)), name)
            if isinstance(node, ast.Assign):
                self.assertEqual(len(node.targets), 1, name)
            if isinstance(node, (ast.For, ast.While)):
                self.assertEqual(node.orelse, [], name)

    def test_only_calls_stand_by_themselves(self):
        for path in FILES:
            tree = ast.parse(path.read_text())
            for node in ast.walk(tree):
                if isinstance(node, ast.Expr) and node is not tree.body[0]:
                    self.assertIsInstance(node.value, ast.Call, (path, node.lineno))

    def test_is_stands_beside_none_true_and_false(self):
        for name, node in nodes():
            if isinstance(node, ast.Compare) and isinstance(node.ops[0], (ast.Is, ast.IsNot)):
                self.assertIsInstance(node.comparators[0], ast.Constant, (name, node.lineno))
                self.assertIn(node.comparators[0].value, (None, True, False))

    def test_texts_and_powers(self):
        for name, node in nodes():
            self.assertNotIsInstance(node, ast.Pow, name)
            if isinstance(node, ast.Constant) and isinstance(node.value, str):
                self.assertNotIn("%", node.value, name)

    def test_what_a_loop_walks_is_not_changed_in_it(self):
        changing = {"append", "clear", "extend", "insert", "pop", "remove", "reverse", "setdefault", "update"}
        for name, loop in nodes():
            if not isinstance(loop, ast.For):
                continue
            walked = ast.unparse(loop.iter)
            for node in ast.walk(loop):
                if isinstance(node, ast.Attribute) and node.attr in changing:
                    self.assertNotEqual(ast.unparse(node.value), walked, (name, node.lineno))
                if isinstance(node, ast.Subscript) and isinstance(node.ctx, ast.Store):
                    self.assertNotEqual(ast.unparse(node.value), walked, (name, node.lineno))

    def test_init_gives_back_nothing(self):
        for name, node in nodes():
            if isinstance(node, ast.FunctionDef) and node.name == "__init__":
                self.assertFalse([part for part in ast.walk(node) if isinstance(part, ast.Return)], name)

    def test_functions(self):
        for name, node in nodes():
            if isinstance(node, ast.FunctionDef):
                self.assertLessEqual(node.end_lineno - node.lineno + 1, 40, (name, node.name))
                self.assertEqual(node.decorator_list, [])
                given = node.args
                self.assertEqual((given.vararg, given.kwarg, given.kwonlyargs, given.posonlyargs), (None, None, [], []))

    def test_imports(self):
        for name, node in nodes():
            if isinstance(node, ast.ImportFrom):
                self.assertEqual(node.level, 0)
                self.assertTrue(node.module.startswith("policyturn."), (name, node.module))
                self.assertTrue(all(alias.name != "*" for alias in node.names))

    def test_no_two_files_draw_from_one_another(self):
        drawn = {path.stem: set() for path in FILES}
        for name, node in nodes():
            if isinstance(node, ast.ImportFrom):
                drawn[name[:-3]].add(node.module.split(".")[1])
        while drawn:
            free = [stem for stem, needs in drawn.items() if not needs & set(drawn)]
            self.assertTrue(free, drawn)
            drawn = {stem: needs for stem, needs in drawn.items() if stem not in free}


class Names(unittest.TestCase):
    def test_plain(self):
        for name, node in nodes():
            for field in ("id", "attr", "arg", "name"):
                word = getattr(node, field, None)
                if isinstance(word, str) and word not in OWN_DOUBLE:
                    self.assertFalse(word.startswith("_"), (name, word))
                    self.assertNotIn(word, FORBIDDEN_NAMES, name)

    def test_pythons_own(self):
        for name, node in nodes():
            if isinstance(node, ast.Name) and node.id in dir(builtins):
                self.assertIsInstance(node.ctx, ast.Load, (name, node.id))
                self.assertIn(node.id, ALLOWED_BUILTINS, name)
            if isinstance(node, ast.arg):
                self.assertNotIn(node.arg, dir(builtins), name)

    def test_methods_of_pythons_own_values(self):
        for name, node in nodes():
            if isinstance(node, ast.Attribute) and node.attr in python_methods():
                self.assertIn(node.attr, ALLOWED_METHODS, (name, node.lineno))

    def test_no_local_is_called_like_a_class_or_an_import(self):
        for path in FILES:
            tree = ast.parse(path.read_text())
            taken = {node.name for node in tree.body if isinstance(node, ast.ClassDef)}
            for node in tree.body:
                if isinstance(node, ast.ImportFrom):
                    taken |= {alias.name for alias in node.names}
            for node in ast.walk(tree):
                if isinstance(node, ast.arg):
                    self.assertNotIn(node.arg, taken, path)
                if isinstance(node, ast.Name) and isinstance(node.ctx, ast.Store):
                    self.assertNotIn(node.id, taken, path)

    def test_no_name_is_a_method_and_a_value(self):
        methods = set()
        values = set()
        for name, node in nodes():
            if isinstance(node, ast.ClassDef):
                methods |= {part.name for part in node.body}
            if isinstance(node, ast.Attribute) and isinstance(node.ctx, ast.Store):
                values.add(node.attr)
        self.assertEqual(methods & values, set())
        self.assertEqual((methods | values) & python_methods(), {"__init__"})


if __name__ == "__main__":
    unittest.main()
