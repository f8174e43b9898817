"""The form of the package's own files: what of the language's rules can be read off the code."""

import ast
import builtins
import pathlib
import re
import unittest

PACKAGE = pathlib.Path(__file__).resolve().parent.parent / "treewaysdesk"
FILES = sorted(path for path in PACKAGE.rglob("*") if "__pycache__" not in path.parts)

OWN_NAMES = """len range enumerate zip min max sum abs sorted reversed int str bool list tuple dict set frozenset
    isinstance ord repr any all divmod Exception ValueError TypeError KeyError IndexError LookupError
    ZeroDivisionError ArithmeticError OverflowError RuntimeError NotImplementedError AttributeError
    StopIteration""".split()
OWN_METHODS = """append clear copy count endswith extend find get index insert isalnum isalpha isdigit islower isspace
    isupper items join keys ljust lower lstrip partition pop remove replace reverse rfind rjust rpartition rsplit
    rstrip setdefault split splitlines startswith strip update upper values zfill bit_length""".split()
BANNED_NAMES = """register mro elements open input version_info with_traceback add_note attrgetter breakpoint builtins
    compile copyright credits delattr dir eval exec exit gc getattr globals hasattr help id importlib license locals
    methodcaller os quit setattr super type vars sys chr print format format_map""".split()
BANNED_WORDS = """type typing typing_extensions enum Enum IntEnum StrEnum Flag IntFlag Generic Protocol ABC ABCMeta
    namedtuple NamedTuple TypedDict TYPE_CHECKING abstractmethod""".split()
BANNED_PARTS = ("dataclass", "overload", "contextmanager")
TWO_UNDERSCORES = ("__init__", "__eq__", "__repr__", "__str__", "__len__")

CHANGING_METHODS = ("append", "clear", "extend", "insert", "pop", "remove", "reverse", "setdefault", "update")
# L26: how a value of an object may be called although a value of Python's own has a method of that name.
FREE_VALUES = "count index title find get join lower upper split strip copy add".split()
PYTHON_S_OWN = {name for kind in (str, int, list, tuple, dict, set, frozenset, bytes) for name in dir(kind)}
WALKED_AT_ONCE = ("zip", "enumerate", "reversed", "range")
WALKERS = ("list", "tuple", "dict", "sorted", "sum", "any", "all", "enumerate", "zip", "min", "max")

STATEMENTS = (ast.Module, ast.FunctionDef, ast.ClassDef, ast.arguments, ast.arg, ast.Assign, ast.AugAssign, ast.If,
              ast.While, ast.For, ast.Return, ast.Break, ast.Continue, ast.Pass, ast.Raise, ast.Try,
              ast.ExceptHandler, ast.Expr)
EXPRESSIONS = (ast.Constant, ast.List, ast.Tuple, ast.Dict, ast.BinOp, ast.UnaryOp, ast.BoolOp, ast.Compare, ast.IfExp,
               ast.Call, ast.Attribute, ast.Subscript, ast.Slice, ast.ListComp, ast.comprehension, ast.Name,
               ast.Lambda, ast.keyword, ast.expr_context, ast.operator, ast.unaryop, ast.boolop, ast.cmpop)


class LanguageTest(unittest.TestCase):
    def each_file(self):
        for path in FILES:
            yield path, path.read_text(encoding="utf-8")

    def each_node(self):
        for path, text in self.each_file():
            for node in ast.walk(ast.parse(text)):
                yield path, node

    def at(self, path, node):
        return f"{path.name}, line {getattr(node, 'lineno', 0)}: {ast.dump(node)[:80]}"

    def test_files(self):
        names = [str(path.relative_to(PACKAGE)) for path in FILES]
        self.assertEqual(names, ["__init__.py", "forest.py"])

    def test_signs_and_sizes(self):
        for path, text in self.each_file():
            self.assertEqual(re.findall(r"[^ -~\n]", text), [])
            lines = text.split("\n")
            self.assertLessEqual(len(lines), 401)
            self.assertLessEqual(max(len(line) for line in lines), 120)

    def test_size_of_functions(self):
        for path, node in self.each_node():
            if isinstance(node, ast.FunctionDef):
                self.assertLessEqual(node.end_lineno - node.lineno + 1, 40, self.at(path, node))

    def test_nothing_is_imported(self):
        for path, node in self.each_node():
            self.assertNotIsInstance(node, (ast.Import, ast.ImportFrom), self.at(path, node))

    def test_statements_and_expressions(self):
        for path, node in self.each_node():
            self.assertIsInstance(node, STATEMENTS + EXPRESSIONS, self.at(path, node))
            self.assertNotIsInstance(node, (ast.Div, ast.MatMult, ast.Is, ast.IsNot), self.at(path, node))
            if isinstance(node, ast.Constant):
                self.assertIn(type(node.value), (int, str, bool, type(None)), self.at(path, node))
            if isinstance(node, ast.Assign):
                self.assertEqual(len(node.targets), 1, self.at(path, node))
                self.assertNotIsInstance(node.targets[0], (ast.Tuple, ast.List), self.at(path, node))
            if isinstance(node, (ast.While, ast.For)):
                self.assertEqual(node.orelse, [], self.at(path, node))
            if isinstance(node, (ast.FunctionDef, ast.ClassDef)):
                self.assertEqual(node.decorator_list, [], self.at(path, node))

    def test_top_of_a_module(self):
        for path, text in self.each_file():
            names = []
            for place, node in enumerate(ast.parse(text).body):
                if place == 0:
                    self.assertIsInstance(node, ast.Expr)
                    self.assertIsInstance(node.value.value, str)
                elif isinstance(node, ast.Assign):
                    names.append(node.targets[0].id)
                    ast.literal_eval(node.value)
                else:
                    self.assertIsInstance(node, (ast.FunctionDef, ast.ClassDef), self.at(path, node))
                    names.append(node.name)
            self.assertEqual(len(set(names)), len(names))

    def test_calls_by_themselves(self):
        for path, text in self.each_file():
            for node in ast.walk(ast.Module(ast.parse(text).body[1:], [])):
                if isinstance(node, ast.Expr):
                    self.assertIsInstance(node.value, ast.Call, self.at(path, node))

    def test_names(self):
        for path, node in self.each_node():
            name = None
            if isinstance(node, ast.Name):
                name = node.id
                if isinstance(node.ctx, ast.Load) and hasattr(builtins, name):
                    self.assertIn(name, OWN_NAMES, self.at(path, node))
                if isinstance(node.ctx, ast.Store):
                    self.assertFalse(hasattr(builtins, name), self.at(path, node))
            elif isinstance(node, ast.arg):
                name = node.arg
                self.assertFalse(hasattr(builtins, name), self.at(path, node))
            elif isinstance(node, ast.Attribute):
                name = node.attr
            elif isinstance(node, (ast.FunctionDef, ast.ClassDef)):
                name = node.name
            if name is not None and name not in TWO_UNDERSCORES:
                self.assertRegex(name, r"^[A-Za-z][A-Za-z0-9_]*$")
                self.assertNotIn(name, BANNED_NAMES, self.at(path, node))

    def test_words(self):
        for path, text in self.each_file():
            words = re.findall(r"[A-Za-z0-9_]+", text)
            self.assertEqual([word for word in words if word in BANNED_WORDS], [])
            self.assertEqual([part for part in BANNED_PARTS if part in text], [])

    def test_methods_and_values(self):
        nodes = [node for path, node in self.each_node()]
        classes = [node for node in nodes if isinstance(node, ast.ClassDef)]
        methods = [part.name for node in classes for part in node.body]
        for node in classes:
            self.assertEqual([part for part in node.body if not isinstance(part, ast.FunctionDef)], [])
        stored = [node.attr for node in nodes if isinstance(node, ast.Attribute) and isinstance(node.ctx, ast.Store)]
        self.assertEqual(set(stored) & set(methods), set())
        called = [node.func for node in nodes if isinstance(node, ast.Call)]
        for node in called:
            if isinstance(node, ast.Attribute):
                self.assertIn(node.attr, methods + OWN_METHODS)
        loaded = [node for node in nodes if isinstance(node, ast.Attribute) and isinstance(node.ctx, ast.Load)]
        self.assertEqual([node.attr for node in loaded if node not in called and node.attr not in stored], [])

    def test_names_of_methods_and_values(self):
        for path, node in self.each_node():
            if isinstance(node, ast.ClassDef):
                names = [part.name for part in node.body]
                self.assertEqual(len(set(names)), len(names), self.at(path, node))
                allowed = set(OWN_METHODS + ["add", "discard"]) | set(TWO_UNDERSCORES)
                self.assertEqual(set(names) & PYTHON_S_OWN - allowed, set())
            if isinstance(node, ast.Attribute) and isinstance(node.ctx, ast.Store):
                self.assertNotIn(node.attr, PYTHON_S_OWN - set(FREE_VALUES), self.at(path, node))
                self.assertIsInstance(node.value, ast.Name, self.at(path, node))

    def test_parameters_and_keywords(self):
        for path, node in self.each_node():
            self.assertNotIsInstance(node, ast.keyword, self.at(path, node))
            if isinstance(node, ast.arguments):
                self.assertEqual((node.vararg, node.kwarg, node.kwonlyargs, node.posonlyargs), (None, None, [], []))
            if isinstance(node, ast.arg):
                self.assertIsNone(node.annotation, self.at(path, node))
            if isinstance(node, ast.FunctionDef):
                self.assertIsNone(node.returns, self.at(path, node))

    def test_comprehensions_and_texts(self):
        for path, node in self.each_node():
            if isinstance(node, ast.ListComp):
                self.assertEqual(len(node.generators), 1, self.at(path, node))
                self.assertLessEqual(len(node.generators[0].ifs), 1, self.at(path, node))
            if isinstance(node, ast.Constant) and isinstance(node.value, str):
                self.assertNotIn("%", node.value)
            if isinstance(node, ast.BinOp):
                self.assertNotIsInstance(node.op, ast.Pow, self.at(path, node))

    def test_walked_at_once(self):
        nodes = [node for path, node in self.each_node()]
        walked = [node.iter for node in nodes if isinstance(node, (ast.For, ast.comprehension))]
        for node in nodes:
            if isinstance(node, ast.Call) and isinstance(node.func, ast.Name) and node.func.id in WALKERS:
                walked += node.args
        for path, node in self.each_node():
            if isinstance(node, ast.Call) and isinstance(node.func, ast.Name) and node.func.id in WALKED_AT_ONCE:
                self.assertIn(ast.dump(node, include_attributes=True),
                              [ast.dump(one, include_attributes=True) for one in walked], self.at(path, node))

    def test_what_a_loop_walks_is_not_changed_in_it(self):
        for path, node in self.each_node():
            if isinstance(node, ast.For):
                walked = [ast.unparse(part) for part in ast.walk(node.iter)]
                for inner in node.body:
                    for part in ast.walk(inner):
                        self.assertNotIn(changed_by(part), walked, self.at(path, part))

    def test_lists_and_dicts_of_a_file_s_top_are_only_read(self):
        for path, text in self.each_file():
            tree = ast.parse(text)
            kept = {}
            for node in tree.body:
                if isinstance(node, ast.Assign) and isinstance(node.value, (ast.List, ast.Dict, ast.Tuple)):
                    kept[node.targets[0].id] = True
                    inner = [part for part in ast.walk(node.value) if part is not node.value]
                    self.assertEqual([part for part in inner if isinstance(part, (ast.List, ast.Dict))], [])
            read = []
            for node in ast.walk(tree):
                if isinstance(node, ast.Subscript) and isinstance(node.ctx, ast.Load):
                    read.append(node.value)
                if isinstance(node, ast.Compare) and isinstance(node.ops[0], ast.In):
                    read.append(node.comparators[0])
            for node in ast.walk(tree):
                if isinstance(node, ast.Name) and isinstance(node.ctx, ast.Load) and node.id in kept:
                    self.assertIn(node, read, self.at(path, node))


def changed_by(node):
    """What a statement's part changes, as it is written, or None."""
    if isinstance(node, ast.Call) and isinstance(node.func, ast.Attribute) and node.func.attr in CHANGING_METHODS:
        return ast.unparse(node.func.value)
    if isinstance(node, ast.Subscript) and isinstance(node.ctx, ast.Store):
        return ast.unparse(node.value)
    return None


if __name__ == "__main__":
    unittest.main()
