"""The form of the package's files: those rules of LANGUAGE.md that a walk over the syntax can see."""

import ast
import pathlib
import re
import unittest

import halffactors

FOLDER = pathlib.Path(halffactors.__file__).parent

# L8
BUILT_IN = set("""len range enumerate zip min max sum abs sorted reversed int str bool list tuple dict set frozenset
isinstance ord repr any all divmod Exception ValueError TypeError KeyError IndexError LookupError ZeroDivisionError
ArithmeticError OverflowError RuntimeError NotImplementedError AttributeError StopIteration""".split())

# L25
METHODS = set("""append clear copy count endswith extend find get index insert isalnum isalpha isdigit islower isspace
isupper items join keys ljust lower lstrip partition pop remove replace reverse rfind rjust rpartition rsplit rstrip
setdefault split splitlines startswith strip update upper values zfill bit_length""".split())

# L17
NAMES_OUT = set("""register mro elements open input version_info with_traceback add_note attrgetter breakpoint builtins
compile copyright credits delattr dir eval exec exit gc getattr globals hasattr help id importlib license locals
methodcaller os quit setattr super type vars sys chr print format format_map hash next map filter iter object bin hex
oct pow round slice bytes float complex callable property staticmethod classmethod memoryview""".split())
WORDS_OUT = re.compile(r"\b(type|typing|typing_extensions|enum|Enum|IntEnum|StrEnum|Flag|IntFlag|Generic|Protocol|ABC|"
                       r"ABCMeta|namedtuple|NamedTuple|TypedDict|TYPE_CHECKING|abstractmethod)\b|"
                       r"dataclass|overload|contextmanager")

# L4 to L7
NODES = (ast.Module, ast.FunctionDef, ast.ClassDef, ast.ImportFrom, ast.alias, ast.arguments, ast.arg, ast.Assign,
         ast.AugAssign, ast.If, ast.While, ast.For, ast.Return, ast.Break, ast.Continue, ast.Pass, ast.Raise, ast.Try,
         ast.ExceptHandler, ast.Expr, ast.Call, ast.keyword, ast.Name, ast.Attribute, ast.Subscript, ast.Slice,
         ast.Constant, ast.List, ast.Tuple, ast.Dict, ast.Set, ast.ListComp, ast.comprehension, ast.Lambda,
         ast.IfExp, ast.JoinedStr, ast.FormattedValue, ast.BinOp, ast.BoolOp, ast.UnaryOp, ast.Compare,
         ast.operator, ast.boolop, ast.unaryop, ast.cmpop, ast.expr_context)
NODES_OUT = (ast.Div, ast.MatMult)


def parsed():
    return [(path, ast.parse(path.read_text("ascii"))) for path in sorted(FOLDER.rglob("*.py"))]


def bound_names(tree):
    """Every name that the file binds: at its top, as a parameter or as a local."""
    found = {node.id for node in ast.walk(tree) if isinstance(node, ast.Name) and isinstance(node.ctx, ast.Store)}
    found |= {node.name for node in ast.walk(tree) if isinstance(node, (ast.FunctionDef, ast.ClassDef))}
    found |= {node.arg for node in ast.walk(tree) if isinstance(node, ast.arg)}
    return found | {node.name for node in ast.walk(tree) if isinstance(node, ast.alias)}


class Files(unittest.TestCase):

    def test_names(self):
        for path in FOLDER.rglob("*"):
            if "__pycache__" not in path.parts:
                self.assertTrue(path.is_dir() or re.fullmatch(r"[a-z][a-z0-9_]*\.py|__init__\.py", path.name), path)
                self.assertFalse(re.fullmatch(r"tests?|testing|test_.*|site|conftest|.*customize", path.stem), path)

    def test_sizes_and_signs(self):
        for path, tree in parsed():
            rows = path.read_text("ascii").split("\n")
            self.assertLess(len(rows), 400, path)
            for at, row in enumerate(rows, 1):
                self.assertRegex(row, r"\A[ -~]{0,120}\Z", f"{path}:{at}")
                self.assertNotRegex(row, WORDS_OUT, f"{path}:{at}")

    def test_top(self):
        for path, tree in parsed():
            self.assertIsNotNone(ast.get_docstring(tree), path)
            names = []
            for node in tree.body[1:]:
                self.assertIsInstance(node, (ast.ImportFrom, ast.FunctionDef, ast.ClassDef, ast.Assign), path)
                if isinstance(node, ast.Assign):
                    names.append(node.targets[0].id)
                    self.assertNotIsInstance(node.value, (ast.Call, ast.ListComp, ast.BinOp, ast.Set), path)
                elif not isinstance(node, ast.ImportFrom):
                    names.append(node.name)
            self.assertEqual(len(names), len(set(names)), path)

    def test_interface_stands_in_its_file(self):
        trees = dict((path.name, tree) for path, tree in parsed())
        where = [name for name, tree in trees.items() for node in tree.body
                 if isinstance(node, (ast.FunctionDef, ast.ClassDef)) and node.name == "answers"]
        self.assertEqual(where, ["trials.py"])
        self.assertEqual(len(trees["__init__.py"].body), 1)


class Syntax(unittest.TestCase):

    def each(self, *kinds):
        for path, tree in parsed():
            for node in ast.walk(tree):
                if isinstance(node, kinds):
                    yield f"{path.name}:{getattr(node, 'lineno', 0)}", node

    def test_nodes(self):
        for place, node in self.each(ast.AST):
            self.assertIsInstance(node, NODES, place)
            self.assertNotIsInstance(node, NODES_OUT, place)

    def test_imports(self):
        for place, node in self.each(ast.ImportFrom):
            self.assertEqual(node.level, 0, place)
            self.assertRegex(node.module, r"\Ahalffactors\.[a-z_]+\Z", place)
            self.assertTrue(all(each.name != "*" and each.asname is None for each in node.names), place)
            home = ast.parse((FOLDER / (node.module.split(".")[1] + ".py")).read_text("ascii"))
            defined = {each.name for each in home.body if isinstance(each, (ast.FunctionDef, ast.ClassDef))}
            defined |= {each.targets[0].id for each in home.body if isinstance(each, ast.Assign)}
            self.assertLessEqual({each.name for each in node.names}, defined, place)

    def test_functions(self):
        for place, node in self.each(ast.FunctionDef):
            self.assertLessEqual(node.end_lineno - node.lineno + 1, 40, place)
            self.assertEqual(node.decorator_list, [], place)
            told = node.args
            self.assertEqual((told.vararg, told.kwarg, told.kwonlyargs, told.posonlyargs), (None, None, [], []), place)

    def test_statements(self):
        for place, node in self.each(ast.Assign):
            self.assertEqual(len(node.targets), 1, place)
        for place, node in self.each(ast.For, ast.While):
            self.assertEqual(node.orelse, [], place)
        for place, node in self.each(ast.ListComp):
            self.assertEqual(len(node.generators), 1, place)
            self.assertLessEqual(len(node.generators[0].ifs), 1, place)
        for place, node in self.each(ast.Compare):
            if any(isinstance(sign, (ast.Is, ast.IsNot)) for sign in node.ops):
                self.assertIsInstance(node.comparators[0], ast.Constant, place)

    def test_values(self):
        for place, node in self.each(ast.Constant):
            self.assertIsInstance(node.value, (int, str, bool, type(None)), place)
            if isinstance(node.value, str):
                self.assertNotIn("%", node.value, place)
        for place, node in self.each(ast.BinOp):
            if isinstance(node.op, ast.Pow):
                self.assertIsInstance(node.right, ast.Constant, place)

    def test_names(self):
        for path, tree in parsed():
            bound = bound_names(tree)
            drawn = {each.name for node in tree.body if isinstance(node, ast.ImportFrom) for each in node.names}
            classes = {node.name for node in ast.walk(tree) if isinstance(node, ast.ClassDef)}
            for name in bound:
                self.assertNotIn(name, NAMES_OUT | BUILT_IN, path)
                self.assertRegex(name, r"\A([A-Za-z][A-Za-z0-9_]*|__[a-z]+__)\Z", path)
            for node in ast.walk(tree):
                if isinstance(node, ast.Name) and isinstance(node.ctx, ast.Load):
                    self.assertIn(node.id, bound | BUILT_IN, path)
                if isinstance(node, ast.arg):
                    self.assertNotIn(node.arg, drawn | classes, path)
                if isinstance(node, ast.Name) and isinstance(node.ctx, ast.Store):
                    self.assertNotIn(node.id, drawn | classes, path)

    def test_sets_and_walks(self):
        for path, tree in parsed():
            allowed = set()
            for node in ast.walk(tree):
                if isinstance(node, (ast.For, ast.comprehension)):
                    allowed.add(id(node.iter))
                if isinstance(node, ast.Call) and isinstance(node.func, ast.Name) and node.func.id in (
                        "list", "tuple", "dict", "sorted", "sum", "any", "all", "enumerate", "zip", "min", "max"):
                    allowed |= {id(each) for each in node.args}
            measured = {id(each) for node in ast.walk(tree) if isinstance(node, ast.Call)
                        and isinstance(node.func, ast.Name) and node.func.id in ("len", "sorted") for each in node.args}
            for node in ast.walk(tree):
                self.assertNotIsInstance(node, ast.Set, path)
                if isinstance(node, ast.Call) and isinstance(node.func, ast.Name):
                    if node.func.id in ("range", "zip", "enumerate", "reversed"):
                        self.assertIn(id(node), allowed, f"{path}:{node.lineno}")
                    if node.func.id in ("set", "frozenset"):
                        self.assertIn(id(node), measured, f"{path}:{node.lineno}")

    def test_keywords(self):
        told = {"sorted": ("key", "reverse"), "min": ("key", "default"), "max": ("key", "default"),
                "sum": ("start",), "enumerate": ("start",), "zip": ("strict",)}
        for place, node in self.each(ast.Call):
            if node.keywords:
                self.assertIsInstance(node.func, ast.Name, place)
                self.assertLessEqual({each.arg for each in node.keywords}, set(told[node.func.id]), place)

    def test_methods(self):
        own = {each.name for place, node in self.each(ast.ClassDef) for each in node.body
               if isinstance(each, ast.FunctionDef)}
        for place, node in self.each(ast.Call):
            if isinstance(node.func, ast.Attribute):
                self.assertIn(node.func.attr, METHODS | own, place)
        for place, node in self.each(ast.Attribute):
            self.assertNotIn(node.attr, NAMES_OUT, place)
            if isinstance(node.ctx, ast.Store):
                self.assertNotIn(node.attr, own, place)


if __name__ == "__main__":
    unittest.main()
