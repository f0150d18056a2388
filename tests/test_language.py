"""The part of Python that the package keeps to, as far as a walk over its files can see."""

import ast
import builtins
import pathlib
import re
import unittest

PACKAGE = pathlib.Path(__file__).resolve().parent.parent / "bitsound"
FILES = sorted(path for path in PACKAGE.rglob("*") if "__pycache__" not in path.parts)

STATEMENTS = (ast.FunctionDef, ast.ClassDef, ast.Assign, ast.AugAssign, ast.If, ast.While, ast.For, ast.Return, ast.Break,
              ast.Continue, ast.Pass, ast.Raise, ast.Try, ast.Expr, ast.ImportFrom)
EXPRESSIONS = (ast.Constant, ast.List, ast.Tuple, ast.Dict, ast.BinOp, ast.UnaryOp, ast.BoolOp, ast.Compare, ast.IfExp,
               ast.Call, ast.Attribute, ast.Subscript, ast.Slice, ast.ListComp, ast.Name, ast.Lambda)
OWN_NAMES = ("len range enumerate zip min max sum abs sorted reversed int str bool list tuple dict set frozenset isinstance ord "
             "repr any all divmod Exception ValueError TypeError KeyError IndexError LookupError ZeroDivisionError "
             "ArithmeticError OverflowError RuntimeError NotImplementedError AttributeError StopIteration").split()
OWN_METHODS = ("append clear copy count endswith extend find get index insert isalnum isalpha isdigit islower isspace isupper "
               "items join keys ljust lower lstrip partition pop remove replace reverse rfind rjust rpartition rsplit rstrip "
               "setdefault split splitlines startswith strip update upper values zfill bit_length").split()
NOT_NAMES = ("register mro elements open input version_info with_traceback add_note attrgetter breakpoint builtins compile "
             "copyright credits delattr dir eval exec exit gc getattr globals hasattr help id importlib license locals "
             "methodcaller os quit setattr super type vars sys").split()
NOT_WORDS = ("type typing typing_extensions enum Enum IntEnum StrEnum Flag IntFlag Generic Protocol ABC ABCMeta namedtuple "
             "NamedTuple TypedDict TYPE_CHECKING abstractmethod").split()
WALKED = ("zip", "enumerate", "reversed", "range")
WALKERS = ("list", "tuple", "dict", "sorted", "sum", "any", "all", "enumerate", "zip", "min", "max")


def taken_names():
    found = set()
    for kind in (str, int, list, dict, set, bytes):
        found.update(name for name in dir(kind) if not name.startswith("__"))
    return found


def trees():
    return [(path, ast.parse(path.read_text("ascii"))) for path in FILES]


TREES = trees()


def walk_all(kinds):
    for path, tree in TREES:
        for node in ast.walk(tree):
            if isinstance(node, kinds):
                yield path, node


class Files(unittest.TestCase):
    def test_files(self):
        self.assertIn(PACKAGE / "blocks.py", FILES)
        self.assertIn(PACKAGE / "__init__.py", FILES)
        for path in FILES:
            self.assertTrue(path.is_file() and path.suffix == ".py", path)
            self.assertNotIn(path.stem, dir(builtins))
            self.assertRegex(path.stem, r"^(__init__|[a-z][a-z0-9_]*)$")

    def test_sizes_and_signs(self):
        for path in FILES:
            text = path.read_bytes()
            self.assertTrue(all(byte == 10 or 32 <= byte <= 126 for byte in text), path)
            lines = text.decode("ascii").split("\n")
            self.assertLessEqual(len(lines), 400)
            self.assertLessEqual(max(len(line) for line in lines), 120)
        for path, node in walk_all(ast.FunctionDef):
            self.assertLessEqual(node.end_lineno - node.lineno + 1, 40, (path, node.name))

    def test_words(self):
        for path in FILES:
            words = re.findall(r"[A-Za-z_0-9]+", path.read_text("ascii"))
            self.assertEqual(sorted(set(words) & set(NOT_WORDS)), [], path)
            self.assertEqual([w for w in words if re.search("dataclass|overload|contextmanager", w)], [], path)


class Statements(unittest.TestCase):
    def test_only_these(self):
        for path, node in walk_all((ast.stmt, ast.expr)):
            self.assertIsInstance(node, STATEMENTS + EXPRESSIONS, (path, node.lineno))

    def test_their_forms(self):
        for path, node in walk_all(ast.stmt):
            at = (path.name, node.lineno)
            if isinstance(node, ast.Assign):
                self.assertEqual(len(node.targets), 1, at)
                self.assertNotIsInstance(node.targets[0], (ast.Tuple, ast.List), at)
            if isinstance(node, (ast.For, ast.While)):
                self.assertEqual(node.orelse, [], at)
            if isinstance(node, ast.Try):
                self.assertEqual(node.finalbody, [], at)
                self.assertTrue(all(handler.type is not None for handler in node.handlers), at)
            if isinstance(node, (ast.FunctionDef, ast.ClassDef)):
                self.assertEqual(node.decorator_list, [], at)
            if isinstance(node, ast.ClassDef):
                self.assertLessEqual(len(node.bases), 1, at)
                self.assertTrue(all(isinstance(part, (ast.FunctionDef, ast.Pass)) for part in node.body), at)

    def test_functions(self):
        for path, node in walk_all(ast.FunctionDef):
            arguments = node.args
            self.assertIsNone(arguments.vararg)
            self.assertIsNone(arguments.kwarg)
            self.assertEqual([arguments.kwonlyargs, arguments.posonlyargs, node.returns], [[], [], None])
            self.assertTrue(all(argument.annotation is None for argument in arguments.args))
            if node.name.startswith("_"):
                self.assertEqual(node.name, "__init__")

    def test_the_top_of_a_file(self):
        for path, tree in TREES:
            bound = []
            for i, node in enumerate(tree.body):
                if isinstance(node, ast.Expr):
                    self.assertTrue(i == 0 and isinstance(node.value, ast.Constant), path)
                elif isinstance(node, ast.Assign):
                    bound.append(node.targets[0].id)
                    self.assertIsInstance(node.value, (ast.Constant, ast.Tuple), (path, node.lineno))
                elif isinstance(node, ast.ImportFrom):
                    bound.extend(alias.name for alias in node.names)
                else:
                    self.assertIsInstance(node, (ast.FunctionDef, ast.ClassDef), (path, node.lineno))
                    bound.append(node.name)
            self.assertEqual(len(bound), len(set(bound)), path)

    def test_expressions(self):
        for path, node in walk_all(ast.expr):
            at = (path.name, node.lineno)
            if isinstance(node, ast.Constant):
                self.assertTrue(node.value is None or type(node.value) in (int, str, bool), at)
                self.assertNotIn("%", str(node.value), at)
            if isinstance(node, ast.BinOp):
                self.assertNotIsInstance(node.op, (ast.Div, ast.Pow, ast.MatMult), at)
            if isinstance(node, ast.ListComp):
                self.assertEqual(len(node.generators), 1, at)
                self.assertLessEqual(len(node.generators[0].ifs), 1, at)
            if isinstance(node, ast.Compare):
                for op, other in zip(node.ops, node.comparators):
                    if isinstance(op, (ast.Is, ast.IsNot)):
                        self.assertTrue(isinstance(other, ast.Constant) and type(other.value) is not int, at)
            if isinstance(node, ast.Call):
                self.assertEqual(node.keywords, [], at)


class Names(unittest.TestCase):
    def test_names(self):
        for path, tree in TREES:
            known = {node.id for node in ast.walk(tree) if isinstance(node, ast.Name) and isinstance(node.ctx, ast.Store)}
            known |= {node.arg for node in ast.walk(tree) if isinstance(node, ast.arg)}
            locals_of = set(known)
            handlers = {node.name for node in ast.walk(tree) if isinstance(node, ast.ExceptHandler) and node.name}
            tops = {node.name for node in tree.body if isinstance(node, (ast.FunctionDef, ast.ClassDef))}
            drawn = {alias.name for node in tree.body if isinstance(node, ast.ImportFrom) for alias in node.names}
            classes = {node.name for node in tree.body if isinstance(node, ast.ClassDef)}
            known |= tops | drawn | handlers
            for name in known:
                self.assertRegex(name, r"^[A-Za-z][A-Za-z0-9_]*$")
                self.assertNotIn(name, NOT_NAMES, path)
                self.assertNotIn(name, dir(builtins), path)
            self.assertEqual(locals_of & (drawn | classes), set(), path)
            used = {node.id for node in ast.walk(tree) if isinstance(node, ast.Name)}
            self.assertEqual(used - known - set(OWN_NAMES), set(), path)
            self.assertEqual(drawn - used, set(), path)

    def test_methods_and_values(self):
        methods, given = set(), set()
        for path, node in walk_all(ast.ClassDef):
            names = [part.name for part in node.body if isinstance(part, ast.FunctionDef)]
            self.assertEqual(len(names), len(set(names)))
            methods.update(name for name in names if name != "__init__")
        for path, node in walk_all(ast.Attribute):
            if isinstance(node.ctx, ast.Store):
                given.add(node.attr)
        self.assertEqual(methods & given, set())
        self.assertEqual((methods | given) & taken_names(), set())
        self.assertEqual((methods | given) & set(NOT_NAMES), set())
        for path, node in walk_all(ast.Attribute):
            self.assertIn(node.attr, methods | given | set(OWN_METHODS) | {"__init__"}, (path, node.lineno))

    def test_methods_are_called_where_they_stand(self):
        methods = {part.name for path, node in walk_all(ast.ClassDef) for part in node.body if isinstance(part, ast.FunctionDef)}
        called = {id(node.func) for path, tree in TREES for node in ast.walk(tree) if isinstance(node, ast.Call)}
        for path, tree in TREES:
            for node in ast.walk(tree):
                if isinstance(node, ast.Attribute) and node.attr in methods | set(OWN_METHODS):
                    self.assertIn(id(node), called, (path, node.lineno))
                if isinstance(node, ast.Name) and node.id in OWN_NAMES and not node.id.endswith(("Error", "Exception")):
                    self.assertIn(id(node), called, (path, node.lineno))

    def test_walked_on_the_spot(self):
        for path, tree in TREES:
            fine = set()
            for node in ast.walk(tree):
                if isinstance(node, (ast.For, ast.comprehension)):
                    fine.add(id(node.iter))
                if isinstance(node, ast.Call) and isinstance(node.func, ast.Name) and node.func.id in WALKERS and node.args:
                    fine.add(id(node.args[0]))
            for node in ast.walk(tree):
                if isinstance(node, ast.Call) and isinstance(node.func, ast.Name) and node.func.id in WALKED:
                    self.assertIn(id(node), fine, (path, node.lineno))


class Imports(unittest.TestCase):
    def test_own_files_alone_from_where_the_name_is_defined(self):
        defined = {}
        for path, tree in TREES:
            names = {node.name for node in tree.body if isinstance(node, (ast.FunctionDef, ast.ClassDef))}
            names |= {node.targets[0].id for node in tree.body if isinstance(node, ast.Assign)}
            defined["bitsound." + path.stem] = names
        for path, node in walk_all(ast.ImportFrom):
            self.assertEqual(node.level, 0)
            for alias in node.names:
                self.assertIn(alias.name, defined[node.module], (path, node.lineno))
                self.assertIsNone(alias.asname)

    def test_no_two_draw_from_one_another(self):
        draws = {"bitsound." + path.stem: set() for path in FILES}
        for path, node in walk_all(ast.ImportFrom):
            draws["bitsound." + path.stem].add(node.module)
        self.assertEqual(draws["bitsound.__init__"], set())
        while draws:
            free = [name for name in draws if not draws[name]]
            self.assertNotEqual(free, [], draws)
            draws = {name: draws[name] - set(free) for name in draws if name not in free}


if __name__ == "__main__":
    unittest.main()
