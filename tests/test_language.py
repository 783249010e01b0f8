"""What can be seen at a glance of ../shared/LANGUAGE.md: files, imports, sizes, signs, names and barred words."""

import ast
import builtins
import pathlib
import re
import unittest

PACKAGE = pathlib.Path(__file__).resolve().parent.parent / "freshreach"
BARRED = (
    "type", "typing", "typing_extensions", "enum", "Enum", "IntEnum", "StrEnum", "Flag", "IntFlag", "Generic",
    "Protocol", "ABC", "ABCMeta", "namedtuple", "NamedTuple", "TypedDict", "TYPE_CHECKING", "abstractmethod",
)
# [L8] without chr, which L27 removes.
BUILTINS = (
    "len", "range", "enumerate", "zip", "min", "max", "sum", "abs", "sorted", "reversed", "int", "str", "bool", "bytes",
    "list", "tuple", "dict", "set", "frozenset", "isinstance", "ord", "repr", "any", "all", "divmod", "ValueError",
    "super",
)
# [L25], the methods of builtin values.
BUILTIN_METHODS = (
    "append", "clear", "copy", "count", "endswith", "extend", "find", "get", "index", "insert", "isalnum", "isalpha",
    "isdigit", "islower", "isspace", "isupper", "items", "join", "keys", "ljust", "lower", "lstrip", "partition", "pop",
    "remove", "replace", "reverse", "rfind", "rjust", "rpartition", "rsplit", "rstrip", "setdefault", "split",
    "splitlines", "startswith", "strip", "update", "upper", "values", "zfill", "bit_length",
)
ITERATED = ("zip", "enumerate", "reversed", "range")


def package_files():
    return sorted([path for path in PACKAGE.rglob("*") if path.is_file() and "__pycache__" not in path.parts])


def each_file():
    return [(path.name, path.read_text(encoding="utf-8")) for path in package_files()]


def each_node():
    return [(name, node) for name, text in each_file() for node in ast.walk(ast.parse(text))]


def bound_names(function):
    """The names of the parameters and of the local variables of a function."""
    nodes = list(ast.walk(function))
    names = [node.arg for node in nodes if isinstance(node, ast.arg)]
    return names + [node.id for node in nodes if isinstance(node, ast.Name) and isinstance(node.ctx, ast.Store)]


class TestLanguage(unittest.TestCase):
    def test_files(self):
        names = [path.name for path in package_files()]
        self.assertIn("__init__.py", names)
        self.assertLessEqual(len(names), 100)
        for name in names:
            self.assertRegex(name, r"\A([a-z][a-z0-9_]*|__init__|__main__)\.py\Z")

    def test_sizes_and_signs(self):
        for name, text in each_file():
            lines = text.splitlines()
            self.assertLessEqual(len(lines), 400, name)
            self.assertLessEqual(max([len(line) for line in lines], default=0), 120, name)
            self.assertRegex(text, r"\A[ -~\n]*\Z", name)

    def test_functions_are_short(self):
        for name, text in each_file():
            for node in ast.walk(ast.parse(text)):
                if isinstance(node, ast.FunctionDef):
                    self.assertLessEqual(node.end_lineno - node.lineno + 1, 40, (name, node.name))

    def test_imports(self):
        for name, text in each_file():
            for node in ast.walk(ast.parse(text)):
                if isinstance(node, ast.Import):
                    self.assertEqual(name, "__main__.py")
                if isinstance(node, ast.ImportFrom):
                    self.assertEqual(node.level, 0, name)
                    self.assertIn(node.module.split(".")[0], ("freshreach", "__future__"), name)

    def test_barred_words(self):
        for name, text in each_file():
            words = re.findall(r"\w+", text)
            self.assertEqual([word for word in words if word in BARRED], [], name)
            for part in ("dataclass", "overload", "contextmanager"):
                self.assertNotIn(part, text, name)

    def test_own_names_do_not_begin_with_an_underscore(self):
        for name, text in each_file():
            for node in ast.walk(ast.parse(text)):
                for field in ("id", "name", "arg", "attr"):
                    own = getattr(node, field, None)
                    if isinstance(own, str):
                        self.assertRegex(own, r"\A([A-Za-z][A-Za-z0-9_.]*|__[a-z]+__)\Z", name)

    def test_no_name_is_a_method_and_an_attribute(self):
        methods, assigned, read = set(), set(), set()
        for name, text in each_file():
            tree = ast.parse(text)
            called = {id(node.func) for node in ast.walk(tree) if isinstance(node, ast.Call)}
            for node in ast.walk(tree):
                if isinstance(node, ast.ClassDef):
                    methods.update([part.name for part in node.body if isinstance(part, ast.FunctionDef)])
                if isinstance(node, ast.Attribute) and isinstance(node.ctx, ast.Store):
                    assigned.add(node.attr)
                if isinstance(node, ast.Attribute) and isinstance(node.ctx, ast.Load) and id(node) not in called:
                    read.add(node.attr)
        self.assertEqual(methods & assigned, set())
        self.assertEqual(read - assigned, set())

    def test_lists_in_place_of_generators(self):
        for name, text in each_file():
            for node in ast.walk(ast.parse(text)):
                self.assertNotIsInstance(node, (ast.GeneratorExp, ast.Yield, ast.YieldFrom), name)

    def test_names_that_are_read_are_known(self):
        for name, text in each_file():
            tree = ast.parse(text)
            known = set(BUILTINS)
            for node in ast.walk(tree):
                if isinstance(node, (ast.FunctionDef, ast.ClassDef, ast.alias)):
                    known.add(node.name)
                if isinstance(node, ast.arg):
                    known.add(node.arg)
                if isinstance(node, ast.Name) and isinstance(node.ctx, ast.Store):
                    known.add(node.id)
            read = [node.id for node in ast.walk(tree) if isinstance(node, ast.Name)]
            self.assertEqual([own for own in read if own not in known], [], name)

    def test_no_local_name_has_another_meaning(self):
        for name, text in each_file():
            tree = ast.parse(text)
            nodes = [node for node in ast.walk(tree) if isinstance(node, (ast.ClassDef, ast.alias, ast.FunctionDef))]
            taken = set(dir(builtins)).union([node.name for node in nodes]).difference(self.methods())
            for node in ast.walk(tree):
                if isinstance(node, ast.FunctionDef):
                    self.assertEqual([own for own in bound_names(node) if own in taken], [], (name, node.name))

    def methods(self):
        classes = [node for name, node in each_node() if isinstance(node, ast.ClassDef)]
        return {part.name for node in classes for part in node.body if isinstance(part, ast.FunctionDef)}

    def test_methods_and_attributes_have_free_names(self):
        kinds = (str, int, list, tuple, dict, set, bytes)
        taken = {word for kind in kinds for word in dir(kind) if not word.startswith("__")}
        own = self.methods()
        self.assertEqual((own & taken).difference(BUILTIN_METHODS, ("add", "discard")), set())
        assigned = {node.attr for name, node in each_node() if isinstance(getattr(node, "ctx", None), ast.Store)
                    and isinstance(node, ast.Attribute)}
        free = ("count", "index", "title", "find", "get", "join", "lower", "upper", "split", "strip", "copy", "add")
        self.assertEqual((assigned & taken).difference(free), set())

    def test_methods_that_are_called_are_known(self):
        own = self.methods()
        for name, node in each_node():
            if isinstance(node, ast.Call) and isinstance(node.func, ast.Attribute):
                word = node.func.attr
                self.assertTrue(word in own or word in BUILTIN_METHODS or word == "__init__", (name, word))
                if word in BUILTIN_METHODS:
                    self.assertEqual(node.keywords, [], (name, word))

    def test_behind_a_star_in_a_call_stands_a_name(self):
        for name, node in each_node():
            if isinstance(node, ast.Call):
                for part in node.args:
                    if isinstance(part, ast.Starred):
                        self.assertIsInstance(part.value, (ast.Name, ast.Attribute), (name, node.lineno))

    def test_is_stands_beside_none_alone(self):
        for name, node in each_node():
            if isinstance(node, ast.Compare) and isinstance(node.ops[0], (ast.Is, ast.IsNot)):
                self.assertIn(getattr(node.comparators[0], "value", 0), (None, True, False), (name, node.lineno))

    def test_what_is_not_used(self):
        barred = (
            ast.Try, ast.With, ast.Lambda, ast.Global, ast.Nonlocal, ast.NamedExpr, ast.Match, ast.Div, ast.Mod,
            ast.Pow, ast.Set, ast.AnnAssign, ast.AsyncFunctionDef, ast.Delete,
        )
        for name, node in each_node():
            if isinstance(node, ast.Delete):
                self.assertEqual([type(part) for part in node.targets], [ast.Subscript], (name, node.lineno))
            else:
                self.assertNotIsInstance(node, barred, (name, getattr(node, "lineno", 0)))

    def test_no_percent_sign_and_no_float(self):
        for name, node in each_node():
            if isinstance(node, ast.Constant):
                self.assertIn(type(node.value), (int, str, bool, type(None)), name)
                self.assertNotIn("%", str(node.value), name)

    def test_iterated_at_once(self):
        for name, text in each_file():
            tree = ast.parse(text)
            at_once = set()
            for node in ast.walk(tree):
                if isinstance(node, (ast.For, ast.comprehension)):
                    at_once.add(id(node.iter))
                if isinstance(node, ast.Call) and isinstance(node.func, ast.Name) and node.args:
                    if node.func.id in ("list", "tuple", "dict", "sorted", "sum", "enumerate", "zip"):
                        at_once.add(id(node.args[0]))
            for node in ast.walk(tree):
                if not isinstance(node, ast.Call):
                    continue
                word = getattr(node.func, "id", getattr(node.func, "attr", None))
                if word in ITERATED or word in ("items", "keys", "values"):
                    self.assertIn(id(node), at_once, (name, node.lineno))

    def test_each_import_names_the_file_that_defines_it(self):
        defined = {}
        for name, text in each_file():
            body = ast.parse(text).body
            defined[name] = [node.name for node in body if isinstance(node, (ast.ClassDef, ast.FunctionDef))]
            defined[name] += [node.targets[0].id for node in body if isinstance(node, ast.Assign)]
        for name, node in each_node():
            if isinstance(node, ast.ImportFrom):
                for alias in node.names:
                    self.assertIn(alias.name, defined[node.module.split(".")[1] + ".py"], name)
                    self.assertIsNone(alias.asname, name)

    def test_what_is_imported_is_used(self):
        for name, text in each_file():
            tree = ast.parse(text)
            used = {node.id for node in ast.walk(tree) if isinstance(node, ast.Name)}
            taken = [node.name for node in ast.walk(tree) if isinstance(node, ast.alias)]
            self.assertEqual([own for own in taken if own not in used], [], name)


if __name__ == "__main__":
    unittest.main()
