"""What can be seen at a glance of ../shared/LANGUAGE.md: files, imports, sizes, signs, names and barred words."""

import ast
import pathlib
import re
import unittest

PACKAGE = pathlib.Path(__file__).resolve().parent.parent / "freshreach"
BARRED = (
    "type", "typing", "typing_extensions", "enum", "Enum", "IntEnum", "StrEnum", "Flag", "IntFlag", "Generic",
    "Protocol", "ABC", "ABCMeta", "namedtuple", "NamedTuple", "TypedDict", "TYPE_CHECKING", "abstractmethod",
)


def package_files():
    return sorted([path for path in PACKAGE.rglob("*") if path.is_file() and "__pycache__" not in path.parts])


def each_file():
    return [(path.name, path.read_text(encoding="utf-8")) for path in package_files()]


class TestLanguage(unittest.TestCase):
    def test_files(self):
        names = [path.name for path in package_files()]
        self.assertIn("__init__.py", names)
        self.assertLessEqual(len(names), 100)
        for name in names:
            self.assertRegex(name, r"\A([a-z][a-z0-9_]*|__init__|__main__)\.py\Z")

    def test_sizes_and_signs(self):
        for name, text in each_file():
            lines = text.splitlines()
            self.assertLessEqual(len(lines), 400, name)
            self.assertLessEqual(max([len(line) for line in lines], default=0), 120, name)
            self.assertRegex(text, r"\A[ -~\n]*\Z", name)

    def test_functions_are_short(self):
        for name, text in each_file():
            for node in ast.walk(ast.parse(text)):
                if isinstance(node, ast.FunctionDef):
                    self.assertLessEqual(node.end_lineno - node.lineno + 1, 40, (name, node.name))

    def test_imports(self):
        for name, text in each_file():
            for node in ast.walk(ast.parse(text)):
                if isinstance(node, ast.Import):
                    self.assertEqual(name, "__main__.py")
                if isinstance(node, ast.ImportFrom):
                    self.assertEqual(node.level, 0, name)
                    self.assertIn(node.module.split(".")[0], ("freshreach", "__future__"), name)

    def test_barred_words(self):
        for name, text in each_file():
            words = re.findall(r"\w+", text)
            self.assertEqual([word for word in words if word in BARRED], [], name)
            for part in ("dataclass", "overload", "contextmanager"):
                self.assertNotIn(part, text, name)

    def test_own_names_do_not_begin_with_an_underscore(self):
        for name, text in each_file():
            for node in ast.walk(ast.parse(text)):
                for field in ("id", "name", "arg", "attr"):
                    own = getattr(node, field, None)
                    if isinstance(own, str):
                        self.assertRegex(own, r"\A([A-Za-z][A-Za-z0-9_.]*|__[a-z]+__)\Z", name)

    def test_no_name_is_a_method_and_an_attribute(self):
        methods, assigned, read = set(), set(), set()
        for name, text in each_file():
            tree = ast.parse(text)
            called = {id(node.func) for node in ast.walk(tree) if isinstance(node, ast.Call)}
            for node in ast.walk(tree):
                if isinstance(node, ast.ClassDef):
                    methods.update([part.name for part in node.body if isinstance(part, ast.FunctionDef)])
                if isinstance(node, ast.Attribute) and isinstance(node.ctx, ast.Store):
                    assigned.add(node.attr)
                if isinstance(node, ast.Attribute) and isinstance(node.ctx, ast.Load) and id(node) not in called:
                    read.add(node.attr)
        self.assertEqual(methods & assigned, set())
        self.assertEqual(read - assigned, set())

    def test_lists_in_place_of_generators(self):
        for name, text in each_file():
            for node in ast.walk(ast.parse(text)):
                self.assertNotIsInstance(node, (ast.GeneratorExp, ast.Yield, ast.YieldFrom), name)


if __name__ == "__main__":
    unittest.main()
