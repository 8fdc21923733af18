"""The plainest rules of LANGUAGE.md, looked at in the files of the package: sizes, signs, imports, names."""

import ast
import builtins
import pathlib
import re
import unittest

PACKAGE = pathlib.Path(__file__).resolve().parent.parent / "newsbehind"
BUILTINS = set(
    "len range enumerate zip min max sum abs sorted reversed int str bool bytes list tuple dict set isinstance ord repr any "
    "all divmod pow map iter next getattr hasattr setattr super property staticmethod classmethod Exception ValueError "
    "TypeError KeyError IndexError LookupError ZeroDivisionError ArithmeticError OverflowError RuntimeError "
    "NotImplementedError AttributeError StopIteration NotImplemented".split()
)
LIBRARY = {"math": {"gcd", "lcm"}}
BARRED = re.compile(
    r"\b(type|typing|typing_extensions|enum|Enum|IntEnum|StrEnum|Flag|IntFlag|Generic|Protocol|ABC|ABCMeta|namedtuple|"
    r"NamedTuple|TypedDict|TYPE_CHECKING|abstractmethod|register|mro|elements|open|input|law|global|async)\b"
    r"|dataclass|overload|contextmanager"
)


class LanguageTest(unittest.TestCase):
    def files(self):
        for path in sorted(PACKAGE.glob("*")):
            if path.name != "__pycache__":
                self.assertEqual(path.suffix, ".py")
                text = path.read_text(encoding="utf-8")
                yield path.name, text, ast.parse(text)

    def test_there_are_files(self):
        self.assertIn("__init__.py", [name for name, _, _ in self.files()])

    def test_signs_and_sizes(self):
        for name, text, tree in self.files():
            self.assertEqual([sign for sign in text if not (" " <= sign <= "~" or sign == "\n")], [], name)
            lines = text.split("\n")
            self.assertLessEqual(len(lines), 399, name)
            self.assertLessEqual(max(map(len, lines)), 120, name)
            for node in ast.walk(tree):
                if isinstance(node, ast.FunctionDef):
                    self.assertLessEqual(node.end_lineno - node.lineno + 1, 40, (name, node.name))
                    self.assertEqual(node.decorator_list, [], (name, node.name))

    def test_imports(self):
        for name, _, tree in self.files():
            top = [node for node in tree.body if isinstance(node, ast.ImportFrom)]
            every = [node for node in ast.walk(tree) if isinstance(node, (ast.Import, ast.ImportFrom))]
            self.assertEqual(every, top, name)
            for node in top:
                if node.module in LIBRARY:
                    self.assertLessEqual({alias.name for alias in node.names}, LIBRARY[node.module], name)
                    continue
                self.assertTrue(node.module.startswith("newsbehind."), name)
                source = ast.parse((PACKAGE / (node.module.split(".")[1] + ".py")).read_text())
                own = {getattr(item, "name", None) or item.targets[0].id for item in source.body
                       if isinstance(item, (ast.FunctionDef, ast.ClassDef, ast.Assign))}
                for alias in node.names:
                    self.assertIn(alias.name, own, name)
                    self.assertIsNone(alias.asname, name)
                    self.assertIn(alias.name, {node.id for node in ast.walk(tree) if isinstance(node, ast.Name)}, name)

    def test_names(self):
        for name, text, tree in self.files():
            bound = set()
            for node in ast.walk(tree):
                if isinstance(node, (ast.FunctionDef, ast.ClassDef)):
                    bound.add(node.name)
                elif isinstance(node, ast.arg):
                    bound.add(node.arg)
                elif isinstance(node, ast.Name) and isinstance(node.ctx, ast.Store):
                    bound.add(node.id)
                elif isinstance(node, ast.Name) and hasattr(builtins, node.id):
                    self.assertIn(node.id, BUILTINS, name)
            self.assertEqual(bound & set(dir(builtins)), set(), name)
            code = re.sub(r'"""(.|\n)*?"""', "", re.sub(r"#.*", "", text))
            self.assertIsNone(BARRED.search(code), name)

    def test_locals_are_not_called_as_imports_are(self):
        for name, _, tree in self.files():
            brought = {alias.name for node in tree.body if isinstance(node, ast.ImportFrom) for alias in node.names}
            brought |= {node.name for node in tree.body if isinstance(node, (ast.FunctionDef, ast.ClassDef))}
            for node in ast.walk(tree):
                if isinstance(node, ast.arg):
                    self.assertNotIn(node.arg, brought, name)
                if isinstance(node, ast.Name) and isinstance(node.ctx, ast.Store):
                    self.assertNotIn(node.id, brought, name)

    def test_sets_are_not_iterated(self):
        for name, _, tree in self.files():
            for node in ast.walk(tree):
                for inner in ast.iter_child_nodes(node):
                    is_set = isinstance(inner, (ast.Set, ast.SetComp)) or (
                        isinstance(inner, ast.Call) and isinstance(inner.func, ast.Name) and inner.func.id == "set")
                    if is_set and isinstance(node, ast.Call):
                        self.assertIn(node.func.id, ("sorted", "len"), name)
                    elif is_set:
                        self.assertIsInstance(node, (ast.Assign, ast.Compare), name)

    def test_powers_and_generators(self):
        for name, _, tree in self.files():
            for node in ast.walk(tree):
                self.assertNotIsInstance(node, (ast.Pow, ast.Yield, ast.YieldFrom), name)
                for inner in ast.iter_child_nodes(node):
                    if isinstance(inner, ast.GeneratorExp):
                        self.assertIsInstance(node, ast.Call, name)
                        self.assertIn(node.func.id, ("all", "any", "sum", "min", "max", "sorted", "list", "tuple"), name)

    def test_no_floats_and_no_global_names(self):
        for name, _, tree in self.files():
            for node in ast.walk(tree):
                self.assertNotIsInstance(node, (ast.Global, ast.AsyncFunctionDef, ast.Div), name)
                if isinstance(node, ast.Constant):
                    self.assertNotIsInstance(node.value, (float, complex), name)


if __name__ == "__main__":
    unittest.main()
