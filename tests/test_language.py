"""LANGUAGE.md: those of its rules that can be read off a file of the package."""

import ast
import builtins
import re
import unittest
from pathlib import Path

PACKAGE = Path(__file__).resolve().parent.parent / "benchdays"
FILES = sorted(PACKAGE.glob("*.py"))

STATEMENTS = (ast.Module, ast.FunctionDef, ast.ClassDef, ast.ImportFrom, ast.alias, ast.arguments, ast.arg, ast.Assign,
              ast.AugAssign, ast.If, ast.While, ast.For, ast.Return, ast.Break, ast.Continue, ast.Pass, ast.Raise,
              ast.Assert, ast.Delete, ast.Try, ast.ExceptHandler, ast.Expr)
EXPRESSIONS = (ast.Constant, ast.Name, ast.Attribute, ast.Subscript, ast.Slice, ast.Call, ast.keyword, ast.BinOp,
               ast.UnaryOp, ast.BoolOp, ast.Compare, ast.IfExp, ast.List, ast.Tuple, ast.Dict, ast.Set, ast.ListComp,
               ast.DictComp, ast.SetComp, ast.comprehension, ast.Lambda, ast.JoinedStr, ast.FormattedValue, ast.Starred)
SIGNS = (ast.operator, ast.unaryop, ast.boolop, ast.cmpop, ast.expr_context)

BUILTINS = set("""len range enumerate zip min max sum abs sorted reversed int str bool bytes list tuple dict set
    frozenset isinstance ord repr any all divmod Exception ValueError TypeError KeyError IndexError LookupError
    ZeroDivisionError ArithmeticError OverflowError RuntimeError NotImplementedError AttributeError
    StopIteration""".split())
METHODS = set("""append clear copy count endswith extend find get index insert isalnum isalpha isdigit islower isspace
    isupper items join keys ljust lower lstrip partition pop remove replace reverse rfind rjust rpartition rsplit rstrip
    setdefault split splitlines startswith strip update upper values zfill bit_length sort add discard""".split())
BARRED_WORDS = set("""type typing typing_extensions enum Enum IntEnum StrEnum Flag IntFlag Generic Protocol ABC ABCMeta
    namedtuple NamedTuple TypedDict TYPE_CHECKING abstractmethod""".split())
BARRED_NAMES = set("""register mro elements open input version_info with_traceback add_note attrgetter breakpoint builtins
    compile copyright credits delattr dir eval exec exit gc getattr globals hasattr help id importlib license locals
    methodcaller os quit setattr super type vars sys""".split())
OWN_DOUBLE = ("__init__", "__eq__", "__repr__", "__str__", "__len__")


def tree_of(path):
    return ast.parse(path.read_text(encoding="ascii"))


def names_defined(tree):
    """What a module binds by its functions, classes and assignments."""
    told = [node.name for node in tree.body if isinstance(node, (ast.FunctionDef, ast.ClassDef))]
    for node in tree.body:
        if isinstance(node, ast.Assign):
            told += [target.id for target in node.targets]
    return told


def names_imported(tree):
    return [alias.asname or alias.name for node in tree.body if isinstance(node, ast.ImportFrom) for alias in node.names]


def methods_of(tree):
    """The names of the methods of all classes of a file, without their double underscores."""
    return [part.name for node in tree.body if isinstance(node, ast.ClassDef) for part in node.body
            if isinstance(part, ast.FunctionDef) and part.name not in OWN_DOUBLE]


def names_bound(node):
    """The name that a node binds within a function, as a parameter or by being assigned to."""
    if isinstance(node, ast.arg):
        return [node.arg]
    if isinstance(node, ast.Name) and not isinstance(node.ctx, ast.Load):
        return [node.id]
    return []


class Language(unittest.TestCase):

    def each_node(self):
        for path in FILES:
            for node in ast.walk(tree_of(path)):
                yield f"{path.name}:{getattr(node, 'lineno', 0)}", node

    def test_the_folder(self):
        self.assertIn(PACKAGE / "__init__.py", FILES)
        left = [path.name for path in PACKAGE.iterdir() if path not in FILES and path.name != "__pycache__"]
        self.assertEqual(left, [])
        for path in FILES:
            self.assertRegex(path.stem, "^[a-z0-9_]+$")
            self.assertNotIn(path.stem, dir(builtins))

    def test_sizes_signs_and_words(self):
        for path in FILES:
            text = path.read_text(encoding="ascii")
            self.assertRegex(text, "^[ -~\n]*$")
            self.assertLessEqual(len(text.splitlines()), 400, path.name)
            self.assertLessEqual(max(len(line) for line in text.splitlines()), 120, path.name)
            self.assertEqual(BARRED_WORDS & set(re.findall(r"\w+", text)), set(), path.name)
            self.assertIsNone(re.search("dataclass|overload|contextmanager", text), path.name)

    def test_nodes(self):
        for place, node in self.each_node():
            self.assertIsInstance(node, STATEMENTS + EXPRESSIONS + SIGNS, place)
            self.assertNotIsInstance(node, (ast.Div, ast.MatMult), place)
            if isinstance(node, ast.Starred):
                self.assertIsInstance(node.ctx, ast.Store, place)
            if isinstance(node, (ast.For, ast.While)):
                self.assertEqual(node.orelse, [], place)
            if isinstance(node, ast.Constant):
                self.assertNotIsInstance(node.value, (float, complex), place)
                self.assertNotIn("%", node.value if isinstance(node.value, str) else "", place)
            if isinstance(node, ast.Compare):
                for sign, side in zip(node.ops, node.comparators):
                    if isinstance(sign, (ast.Is, ast.IsNot)):
                        self.assertIsInstance(side, ast.Constant, place)

    def test_functions_and_classes(self):
        for place, node in self.each_node():
            if isinstance(node, ast.FunctionDef):
                self.assertLessEqual(node.end_lineno - node.lineno + 1, 40, place)
                self.assertEqual(node.decorator_list, [], place)
                self.assertIsNone(node.args.vararg or node.args.kwarg, place)
                self.assertEqual(node.args.posonlyargs, [], place)
            if isinstance(node, ast.ClassDef):
                self.assertLessEqual(len(node.bases), 1, place)
                for part in node.body:
                    self.assertIsInstance(part, (ast.FunctionDef, ast.Expr), place)

    def test_names(self):
        for place, node in self.each_node():
            names = names_bound(node)
            if isinstance(node, (ast.FunctionDef, ast.ClassDef)):
                names = [node.name]
            for name in names:
                self.assertTrue(name in OWN_DOUBLE or re.fullmatch("[A-Za-z][A-Za-z0-9_]*", name), place)
                self.assertNotIn(name, BARRED_NAMES, place)
                self.assertNotIn(name, dir(builtins), place)

    def test_no_local_name_is_that_of_a_class_or_an_import(self):
        for path in FILES:
            tree = tree_of(path)
            taken = names_imported(tree) + [node.name for node in tree.body if isinstance(node, ast.ClassDef)]
            bound = [name for part in tree.body if isinstance(part, (ast.FunctionDef, ast.ClassDef))
                     for node in ast.walk(part) for name in names_bound(node)]
            self.assertEqual(sorted(set(taken) & set(bound)), [], path.name)

    def test_imports(self):
        reached = {}
        for path in FILES:
            tree = tree_of(path)
            self.assertEqual(len(names_defined(tree) + names_imported(tree)),
                             len(set(names_defined(tree) + names_imported(tree))), path.name)
            wanted = [node for node in tree.body if isinstance(node, ast.ImportFrom)]
            self.assertEqual(len(wanted), sum(isinstance(node, ast.ImportFrom) for node in ast.walk(tree)), path.name)
            reached[path.stem] = set()
            for node in wanted:
                self.assertEqual((node.level, node.module.split(".")[0]), (0, "benchdays"), path.name)
                home = node.module.split(".")[1]
                reached[path.stem].add(home)
                for alias in node.names:
                    self.assertIn(alias.name, names_defined(tree_of(PACKAGE / f"{home}.py")), path.name)
        self.no_two_import_from_each_other(reached)

    def no_two_import_from_each_other(self, reached):
        left = dict(reached)
        while left:
            free = [name for name in left if not left[name] & set(left)]
            self.assertTrue(free, sorted(left))
            for name in free:
                del left[name]

    def test_calls(self):
        for place, node in self.each_node():
            if isinstance(node, ast.Name) and node.id in dir(builtins):
                self.assertIn(node.id, BUILTINS, place)
            if isinstance(node, ast.Call):
                self.assertFalse([part for part in node.args if isinstance(part, ast.Starred)], place)
            if isinstance(node, ast.Call) and isinstance(node.func, ast.Attribute):
                self.assertIn(node.func.attr, METHODS | {"__init__"} | self.own_methods(), place)

    def own_methods(self):
        return {name for path in FILES for name in methods_of(tree_of(path))}

    def test_methods_and_attributes(self):
        own = self.own_methods()
        values = [value for kind in (str, int, list, dict, set, bytes) for value in dir(kind)]
        self.assertEqual(own & set(values), set())
        assigned = {node.attr for place, node in self.each_node()
                    if isinstance(node, ast.Attribute) and isinstance(node.ctx, ast.Store)}
        self.assertEqual(assigned & (own | set(values)), set())
        for path in FILES:
            tree = tree_of(path)
            called = {id(node.func) for node in ast.walk(tree) if isinstance(node, ast.Call)}
            for node in ast.walk(tree):
                if isinstance(node, ast.Attribute) and id(node) not in called:
                    self.assertIn(node.attr, assigned, f"{path.name}:{node.lineno}")


if __name__ == "__main__":
    unittest.main()
