"""The form of the package's files: what can be seen of the language's rules in the syntax tree."""

import ast
import builtins
import pathlib
import unittest

PACKAGE = pathlib.Path(__file__).resolve().parent.parent / "partednodes"

ERRORS = ("Exception ValueError TypeError KeyError IndexError LookupError ZeroDivisionError ArithmeticError "
          "OverflowError RuntimeError NotImplementedError AttributeError StopIteration").split()
BUILT_IN = ("len range enumerate zip min max sum abs sorted reversed int str bool list tuple dict set frozenset "
            "isinstance ord repr any all divmod").split() + ERRORS
METHODS = ("append clear copy count endswith extend find get index insert isalnum isalpha isdigit islower isspace "
           "isupper items join keys ljust lower lstrip partition pop remove replace reverse rfind rjust rpartition "
           "rsplit rstrip setdefault split splitlines startswith strip update upper values zfill bit_length").split()
TWO_UNDERSCORES = ("__init__", "__eq__", "__repr__", "__str__", "__len__")
NOT_AS_WORDS = ("type typing typing_extensions enum Enum IntEnum StrEnum Flag IntFlag Generic Protocol ABC ABCMeta "
                "namedtuple NamedTuple TypedDict TYPE_CHECKING abstractmethod").split()
NOT_AS_NAMES = ("register mro elements open input version_info with_traceback add_note attrgetter breakpoint builtins "
                "compile copyright credits delattr dir eval exec exit gc getattr globals hasattr help id importlib "
                "license locals methodcaller os quit setattr super type vars sys format format_map").split()

NODES = (
    ast.Module, ast.FunctionDef, ast.ClassDef, ast.Return, ast.Assign, ast.AugAssign, ast.For, ast.While, ast.If,
    ast.Raise, ast.Try, ast.ExceptHandler, ast.ImportFrom, ast.alias, ast.Expr, ast.Pass, ast.Break, ast.Continue,
    ast.BoolOp, ast.BinOp, ast.UnaryOp, ast.Lambda, ast.IfExp, ast.Dict, ast.List, ast.Tuple, ast.Compare, ast.Call,
    ast.keyword, ast.Constant, ast.Attribute, ast.Subscript, ast.Slice, ast.Name, ast.ListComp, ast.comprehension,
    ast.JoinedStr, ast.FormattedValue, ast.arguments, ast.arg, ast.expr_context, ast.boolop, ast.operator,
    ast.unaryop, ast.cmpop,
)
AT_THE_TOP = (ast.ImportFrom, ast.FunctionDef, ast.ClassDef, ast.Assign)


def words_of(text):
    return "".join(sign if sign.isalnum() or sign == "_" else " " for sign in text).split()


def bound_at_the_top(tree):
    names = []
    for part in tree.body:
        if isinstance(part, (ast.FunctionDef, ast.ClassDef)):
            names.append(part.name)
        elif isinstance(part, ast.Assign):
            names.append(part.targets[0].id)
    return names


def locals_of(part):
    inner = list(ast.walk(part))
    names = [node.arg for node in inner if isinstance(node, ast.arg)]
    return names + [node.id for node in inner if isinstance(node, ast.Name) and isinstance(node.ctx, ast.Store)]


class Language(unittest.TestCase):

    def setUp(self):
        self.texts = {path: path.read_text("utf-8") for path in sorted(PACKAGE.glob("*.py"))}
        self.trees = {path: ast.parse(text) for path, text in self.texts.items()}
        self.assertTrue(self.trees)

    def each_node(self):
        for path, tree in self.trees.items():
            for node in ast.walk(tree):
                yield f"{path.name}:{getattr(node, 'lineno', 0)}", node

    def test_files(self):
        here = [path.name for path in PACKAGE.iterdir() if path.name != "__pycache__"]
        self.assertIn("__init__.py", here)
        for name in here:
            self.assertRegex(name, r"\A[a-z_][a-z0-9_]*\.py\Z")

    def test_sizes_and_signs(self):
        for path, text in self.texts.items():
            lines = text.split("\n")
            self.assertLessEqual(len(lines) - 1, 400, path)
            self.assertLessEqual(max(len(line) for line in lines), 120, path)
            self.assertTrue(all(sign == "\n" or " " <= sign <= "~" for sign in text), path)
        for place, node in self.each_node():
            if isinstance(node, ast.FunctionDef):
                self.assertLessEqual(node.end_lineno - node.lineno + 1, 40, place)

    def test_words_that_stand_nowhere(self):
        for path, text in self.texts.items():
            for word in words_of(text):
                self.assertNotIn(word, NOT_AS_WORDS, path)

    def test_only_the_kinds_of_code_that_are_told(self):
        for place, node in self.each_node():
            self.assertIsInstance(node, NODES, place)
            self.assertNotIsInstance(node, (ast.Div, ast.MatMult), place)
            if isinstance(node, ast.Constant):
                self.assertIn(type(node.value), (int, str, bool, type(None)), place)
            if isinstance(node, ast.Assign):
                self.assertEqual(len(node.targets), 1, place)
            if isinstance(node, (ast.For, ast.While)):
                self.assertEqual(node.orelse, [], place)
            if isinstance(node, ast.Compare) and any(isinstance(op, (ast.Is, ast.IsNot)) for op in node.ops):
                self.assertIsInstance(node.comparators[-1], ast.Constant, place)

    def test_the_top_of_a_file(self):
        for path, tree in self.trees.items():
            self.assertIsNotNone(ast.get_docstring(tree), path)
            for part in tree.body[1:]:
                self.assertIsInstance(part, AT_THE_TOP, path)
            names = bound_at_the_top(tree)
            self.assertEqual(len(names), len(set(names)), path)

    def test_calls_alone_stand_by_themselves(self):
        for path, tree in self.trees.items():
            for node in ast.walk(tree):
                if isinstance(node, ast.Expr) and node != tree.body[0]:
                    self.assertIsInstance(node.value, ast.Call, f"{path.name}:{node.lineno}")

    def test_functions_and_classes(self):
        for place, node in self.each_node():
            if isinstance(node, (ast.FunctionDef, ast.ClassDef)):
                self.assertEqual(node.decorator_list, [], place)
            if isinstance(node, ast.ClassDef):
                self.assertTrue(all(isinstance(part, ast.FunctionDef) for part in node.body), place)
            if isinstance(node, ast.arguments):
                self.assertEqual((node.vararg, node.kwarg, node.kwonlyargs, node.posonlyargs), (None, None, [], []),
                                 place)
            if isinstance(node, ast.FunctionDef):
                self.assertIsNone(node.returns, place)
                self.assertTrue(all(arg.annotation is None for arg in node.args.args), place)

    def test_imports(self):
        tops = {f"partednodes.{path.stem}": bound_at_the_top(tree) for path, tree in self.trees.items()}
        drawn = {}
        for path, tree in self.trees.items():
            drawn[f"partednodes.{path.stem}"] = []
            for node in ast.walk(tree):
                if isinstance(node, ast.ImportFrom):
                    self.assertEqual(node.level, 0, path)
                    self.assertIn(node.module, tops, path)
                    for name in node.names:
                        self.assertIn(name.name, tops[node.module], path)
                    drawn[f"partednodes.{path.stem}"].append(node.module)
        while drawn:
            free = [name for name in drawn if not any(other in drawn for other in drawn[name])]
            self.assertTrue(free, f"these draw from one another: {sorted(drawn)}")
            drawn = {name: drawn[name] for name in drawn if name not in free}

    def test_names(self):
        for path, tree in self.trees.items():
            imports = [name.name for node in tree.body if isinstance(node, ast.ImportFrom) for name in node.names]
            known = bound_at_the_top(tree) + imports
            for part in tree.body:
                for name in locals_of(part) if isinstance(part, (ast.FunctionDef, ast.ClassDef)) else []:
                    self.assertNotIn(name, known, path)
                    self.assertFalse(hasattr(builtins, name), f"{path.name}: {name}")
            for node in ast.walk(tree):
                if isinstance(node, ast.Name):
                    self.assertFalse(node.id.startswith("_"), path)
                    self.assertNotIn(node.id, NOT_AS_NAMES, path)
                    if hasattr(builtins, node.id):
                        self.assertIn(node.id, BUILT_IN, path)
                if isinstance(node, ast.FunctionDef) and node.name.startswith("_"):
                    self.assertIn(node.name, TWO_UNDERSCORES, path)

    def test_methods_and_values(self):
        methods = []
        values = []
        called = []
        for place, node in self.each_node():
            if isinstance(node, ast.ClassDef):
                methods += [part.name for part in node.body]
            if isinstance(node, ast.Attribute):
                self.assertFalse(node.attr.startswith("_"), place)
                self.assertNotIn(node.attr, NOT_AS_NAMES, place)
                if isinstance(node.ctx, ast.Store):
                    values.append(node.attr)
            if isinstance(node, ast.Call) and isinstance(node.func, ast.Attribute):
                called.append((place, node.func.attr))
        for place, name in called:
            self.assertIn(name, METHODS + methods, place)
        python = [name for kind in (str, int, list, dict, set, bytes, tuple) for name in dir(kind)]
        for name in methods + values:
            self.assertTrue(name in TWO_UNDERSCORES or name not in python, name)
        self.assertEqual([name for name in methods if name in values], [])


if __name__ == "__main__":
    unittest.main()
