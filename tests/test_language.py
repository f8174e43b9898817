"""The form of the package's own files: what of the language's rules can be read off the code."""

import ast
import builtins
import pathlib
import re
import unittest

PACKAGE = pathlib.Path(__file__).resolve().parent.parent / "treewaysdesk"
FILES = sorted(path for path in PACKAGE.rglob("*") if "__pycache__" not in path.parts)

OWN_NAMES = """len range enumerate zip min max sum abs sorted reversed int str bool list tuple dict set frozenset
    isinstance ord repr any all divmod Exception ValueError TypeError KeyError IndexError LookupError
    ZeroDivisionError ArithmeticError OverflowError RuntimeError NotImplementedError AttributeError
    StopIteration""".split()
OWN_METHODS = """append clear copy count endswith extend find get index insert isalnum isalpha isdigit islower isspace
    isupper items join keys ljust lower lstrip partition pop remove replace reverse rfind rjust rpartition rsplit
    rstrip setdefault split splitlines startswith strip update upper values zfill bit_length""".split()
BANNED_NAMES = """register mro elements open input version_info with_traceback add_note attrgetter breakpoint builtins
    compile copyright credits delattr dir eval exec exit gc getattr globals hasattr help id importlib license locals
    methodcaller os quit setattr super type vars sys chr print format format_map""".split()
BANNED_WORDS = """type typing typing_extensions enum Enum IntEnum StrEnum Flag IntFlag Generic Protocol ABC ABCMeta
    namedtuple NamedTuple TypedDict TYPE_CHECKING abstractmethod""".split()
BANNED_PARTS = ("dataclass", "overload", "contextmanager")
TWO_UNDERSCORES = ("__init__", "__eq__", "__repr__", "__str__", "__len__")

STATEMENTS = (ast.Module, ast.FunctionDef, ast.ClassDef, ast.arguments, ast.arg, ast.Assign, ast.AugAssign, ast.If,
              ast.While, ast.For, ast.Return, ast.Break, ast.Continue, ast.Pass, ast.Raise, ast.Try,
              ast.ExceptHandler, ast.Expr)
EXPRESSIONS = (ast.Constant, ast.List, ast.Tuple, ast.Dict, ast.BinOp, ast.UnaryOp, ast.BoolOp, ast.Compare, ast.IfExp,
               ast.Call, ast.Attribute, ast.Subscript, ast.Slice, ast.ListComp, ast.comprehension, ast.Name,
               ast.Lambda, ast.keyword, ast.expr_context, ast.operator, ast.unaryop, ast.boolop, ast.cmpop)


class LanguageTest(unittest.TestCase):
    def each_file(self):
        for path in FILES:
            yield path, path.read_text(encoding="utf-8")

    def each_node(self):
        for path, text in self.each_file():
            for node in ast.walk(ast.parse(text)):
                yield path, node

    def at(self, path, node):
        return f"{path.name}, line {getattr(node, 'lineno', 0)}: {ast.dump(node)[:80]}"

    def test_files(self):
        names = [str(path.relative_to(PACKAGE)) for path in FILES]
        self.assertEqual(names, ["__init__.py", "forest.py"])

    def test_signs_and_sizes(self):
        for path, text in self.each_file():
            self.assertEqual(re.findall(r"[^ -~\n]", text), [])
            lines = text.split("\n")
            self.assertLessEqual(len(lines), 401)
            self.assertLessEqual(max(len(line) for line in lines), 120)

    def test_size_of_functions(self):
        for path, node in self.each_node():
            if isinstance(node, ast.FunctionDef):
                self.assertLessEqual(node.end_lineno - node.lineno + 1, 40, self.at(path, node))

    def test_nothing_is_imported(self):
        for path, node in self.each_node():
            self.assertNotIsInstance(node, (ast.Import, ast.ImportFrom), self.at(path, node))

    def test_statements_and_expressions(self):
        for path, node in self.each_node():
            self.assertIsInstance(node, STATEMENTS + EXPRESSIONS, self.at(path, node))
            self.assertNotIsInstance(node, (ast.Div, ast.MatMult, ast.Is, ast.IsNot), self.at(path, node))
            if isinstance(node, ast.Constant):
                self.assertIn(type(node.value), (int, str, bool, type(None)), self.at(path, node))
            if isinstance(node, ast.Assign):
                self.assertEqual(len(node.targets), 1, self.at(path, node))
                self.assertNotIsInstance(node.targets[0], (ast.Tuple, ast.List), self.at(path, node))
            if isinstance(node, (ast.While, ast.For)):
                self.assertEqual(node.orelse, [], self.at(path, node))
            if isinstance(node, (ast.FunctionDef, ast.ClassDef)):
                self.assertEqual(node.decorator_list, [], self.at(path, node))

    def test_top_of_a_module(self):
        for path, text in self.each_file():
            names = []
            for place, node in enumerate(ast.parse(text).body):
                if place == 0:
                    self.assertIsInstance(node, ast.Expr)
                    self.assertIsInstance(node.value.value, str)
                elif isinstance(node, ast.Assign):
                    names.append(node.targets[0].id)
                    ast.literal_eval(node.value)
                else:
                    self.assertIsInstance(node, (ast.FunctionDef, ast.ClassDef), self.at(path, node))
                    names.append(node.name)
            self.assertEqual(len(set(names)), len(names))

    def test_calls_by_themselves(self):
        for path, text in self.each_file():
            for node in ast.walk(ast.Module(ast.parse(text).body[1:], [])):
                if isinstance(node, ast.Expr):
                    self.assertIsInstance(node.value, ast.Call, self.at(path, node))

    def test_names(self):
        for path, node in self.each_node():
            name = None
            if isinstance(node, ast.Name):
                name = node.id
                if isinstance(node.ctx, ast.Load) and hasattr(builtins, name):
                    self.assertIn(name, OWN_NAMES, self.at(path, node))
                if isinstance(node.ctx, ast.Store):
                    self.assertFalse(hasattr(builtins, name), self.at(path, node))
            elif isinstance(node, ast.arg):
                name = node.arg
                self.assertFalse(hasattr(builtins, name), self.at(path, node))
            elif isinstance(node, ast.Attribute):
                name = node.attr
            elif isinstance(node, (ast.FunctionDef, ast.ClassDef)):
                name = node.name
            if name is not None and name not in TWO_UNDERSCORES:
                self.assertRegex(name, r"^[A-Za-z][A-Za-z0-9_]*$")
                self.assertNotIn(name, BANNED_NAMES, self.at(path, node))

    def test_words(self):
        for path, text in self.each_file():
            words = re.findall(r"[A-Za-z0-9_]+", text)
            self.assertEqual([word for word in words if word in BANNED_WORDS], [])
            self.assertEqual([part for part in BANNED_PARTS if part in text], [])

    def test_methods_and_values(self):
        nodes = [node for path, node in self.each_node()]
        classes = [node for node in nodes if isinstance(node, ast.ClassDef)]
        methods = [part.name for node in classes for part in node.body]
        for node in classes:
            self.assertEqual([part for part in node.body if not isinstance(part, ast.FunctionDef)], [])
        stored = [node.attr for node in nodes if isinstance(node, ast.Attribute) and isinstance(node.ctx, ast.Store)]
        self.assertEqual(set(stored) & set(methods), set())
        called = [node.func for node in nodes if isinstance(node, ast.Call)]
        for node in called:
            if isinstance(node, ast.Attribute):
                self.assertIn(node.attr, methods + OWN_METHODS)
        loaded = [node for node in nodes if isinstance(node, ast.Attribute) and isinstance(node.ctx, ast.Load)]
        self.assertEqual([node.attr for node in loaded if node not in called and node.attr not in stored], [])


if __name__ == "__main__":
    unittest.main()
