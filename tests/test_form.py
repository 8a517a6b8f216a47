"""Holds the package's files to the rules of their form, as far as a walk over them can see."""

import ast
import builtins
import pathlib
import re
import unittest

FOLDER = pathlib.Path(__file__).resolve().parent.parent / "pursehall"
FILES = sorted(FOLDER.glob("*.py"))

OWN_NAMES = """len range enumerate zip min max sum abs sorted reversed int str bool list tuple dict set
    isinstance ord repr any all divmod Exception ValueError TypeError KeyError IndexError LookupError
    ZeroDivisionError ArithmeticError OverflowError RuntimeError NotImplementedError StopIteration""".split()
METHODS = """append clear copy count endswith extend find get index insert isalnum isalpha isdigit islower
    isspace isupper items join keys ljust lower lstrip partition pop remove replace reverse rfind rjust
    rpartition rsplit rstrip setdefault split splitlines startswith strip update upper values zfill
    bit_length""".split()
WORDS = """type typing typing_extensions enum Enum IntEnum StrEnum Flag IntFlag Generic Protocol ABC ABCMeta
    namedtuple NamedTuple TypedDict TYPE_CHECKING abstractmethod""".split()
UNUSED = """register mro elements open input version_info with_traceback add_note attrgetter breakpoint
    builtins compile copyright credits delattr dir eval exec exit gc getattr globals hasattr help id
    importlib license locals methodcaller os quit setattr super type vars sys""".split()
WALKED = "zip enumerate reversed range items keys values".split()
WALKING = "list tuple dict sorted sum any all enumerate zip min max".split()
STATEMENTS = (ast.Assign, ast.AugAssign, ast.If, ast.While, ast.For, ast.Return, ast.Break, ast.Continue,
              ast.Pass, ast.Raise, ast.Try, ast.Expr, ast.FunctionDef, ast.ClassDef, ast.ImportFrom)
EXPRESSIONS = (ast.BinOp, ast.UnaryOp, ast.BoolOp, ast.Compare, ast.IfExp, ast.Call, ast.Attribute,
               ast.Subscript, ast.Slice, ast.ListComp, ast.JoinedStr, ast.FormattedValue, ast.Constant,
               ast.Name, ast.List, ast.Tuple, ast.Dict, ast.Lambda)


def parsed(path):
    return ast.parse(path.read_text(encoding="utf-8"))


def nodes(kinds):
    for path in FILES:
        for node in ast.walk(parsed(path)):
            if isinstance(node, kinds):
                yield f"{path.name}:{node.lineno}", node


def imports(path):
    return [node for node in parsed(path).body if isinstance(node, ast.ImportFrom)]


def bound_names(tree):
    # Each name that a def, a class, a parameter, a store or an import binds in the tree.
    for node in ast.walk(tree):
        if isinstance(node, (ast.FunctionDef, ast.ClassDef)):
            yield node.name
        elif isinstance(node, ast.arg):
            yield node.arg
        elif isinstance(node, ast.Name) and isinstance(node.ctx, ast.Store):
            yield node.id
        elif isinstance(node, ast.alias):
            yield node.asname or node.name


class Files(unittest.TestCase):
    def test_files_and_signs(self):
        self.assertIn("__init__.py", [path.name for path in FILES])
        for path in FOLDER.iterdir():
            if path.name != "__pycache__":
                self.assertRegex(path.name, r"^([a-z][a-z0-9_]*|__init__)\.py$")
                self.assertNotIn(path.stem, dir(builtins))
        for path in FILES:
            self.assertRegex(path.read_bytes(), rb"\A[ -~\n]*\Z", path.name)

    def test_sizes(self):
        for path in FILES:
            lines = path.read_text().split("\n")
            self.assertLessEqual(len(lines), 400, path.name)
            self.assertLessEqual(max(len(line) for line in lines), 120, path.name)
        for where, node in nodes((ast.FunctionDef,)):
            self.assertLessEqual(node.end_lineno - node.lineno + 1, 40, where)

    def test_words_that_stand_nowhere(self):
        for path in FILES:
            words = re.findall(r"\w+", path.read_text())
            self.assertEqual([word for word in words if word in WORDS], [], path.name)
            self.assertNotRegex(path.read_text(), "dataclass|overload|contextmanager", path.name)


class Imports(unittest.TestCase):
    def test_each_is_from_the_file_that_defines_the_name(self):
        for where, node in nodes((ast.Import, ast.ImportFrom)):
            self.assertIsInstance(node, ast.ImportFrom, where)
            self.assertRegex(node.module, r"^pursehall\.[a-z_]+$", where)
            source = parsed(FOLDER / (node.module.split(".")[1] + ".py"))
            defined = [n.name for n in source.body if isinstance(n, (ast.FunctionDef, ast.ClassDef))]
            defined += [n.targets[0].id for n in source.body if isinstance(n, ast.Assign)]
            for alias in node.names:
                self.assertIn(alias.name, defined, where)
                self.assertIsNone(alias.asname, where)

    def test_they_stand_at_the_top_and_go_round_nowhere(self):
        draws = {}
        for path in FILES:
            inner = [node for node in ast.walk(parsed(path)) if isinstance(node, ast.ImportFrom)]
            self.assertEqual(len(inner), len(imports(path)), path.name)
            draws[path.stem] = [node.module.split(".")[1] for node in imports(path)]
        while draws:
            free = [name for name in draws if not any(other in draws for other in draws[name])]
            self.assertNotEqual(free, [], "files that draw from one another")
            draws = {name: draws[name] for name in draws if name not in free}


class Code(unittest.TestCase):
    def test_the_top_of_a_module(self):
        for path in FILES:
            body = parsed(path).body
            self.assertIsInstance(body[0], ast.Expr, path.name)
            self.assertIsInstance(body[0].value.value, str, path.name)
            for node in body[1:]:
                where = f"{path.name}:{node.lineno}"
                self.assertIsInstance(node, (ast.ImportFrom, ast.FunctionDef, ast.ClassDef, ast.Assign), where)
            names = [name for node in body for name in bound_names(node)
                     if isinstance(node, (ast.ImportFrom, ast.Assign))]
            names += [node.name for node in body if isinstance(node, (ast.FunctionDef, ast.ClassDef))]
            self.assertEqual(len(names), len(set(names)), path.name)

    def test_statements(self):
        for where, node in nodes((ast.stmt,)):
            self.assertIsInstance(node, STATEMENTS, where)
            if isinstance(node, ast.Expr) and node.lineno > 1:
                self.assertIsInstance(node.value, ast.Call, where)
            if isinstance(node, ast.Assign):
                self.assertEqual(len(node.targets), 1, where)
            if isinstance(node, (ast.For, ast.While)):
                self.assertEqual(node.orelse, [], where)
            if isinstance(node, ast.Try):
                self.assertEqual(node.finalbody, [], where)
            if isinstance(node, (ast.FunctionDef, ast.ClassDef)):
                self.assertEqual(node.decorator_list, [], where)

    def test_expressions(self):
        for where, node in nodes((ast.expr,)):
            self.assertIsInstance(node, EXPRESSIONS, where)
            if isinstance(node, ast.ListComp):
                self.assertEqual(len(node.generators), 1, where)
                self.assertLessEqual(len(node.generators[0].ifs), 1, where)
            if isinstance(node, ast.Constant):
                self.assertIsInstance(node.value, (int, str, type(None)), where)
            if isinstance(node, ast.BinOp):
                self.assertNotIsInstance(node.op, (ast.Div, ast.MatMult), where)
            if isinstance(node, ast.FormattedValue):
                self.assertIsInstance(node.value, ast.Name, where)
                self.assertIsNone(node.format_spec, where)
            if isinstance(node, ast.Compare):
                for op, right in zip(node.ops, node.comparators):
                    if isinstance(op, (ast.Is, ast.IsNot)):
                        self.assertIsInstance(right, ast.Constant, where)

    def test_parameters(self):
        for where, node in nodes((ast.FunctionDef, ast.Lambda)):
            given = node.args
            self.assertEqual((given.vararg, given.kwarg, given.kwonlyargs, given.posonlyargs),
                             (None, None, [], []), where)
            self.assertEqual([arg for arg in given.args if arg.annotation], [], where)


    def test_what_is_walked_at_once(self):
        for path in FILES:
            tree = parsed(path)
            walked = [node.iter for node in ast.walk(tree) if isinstance(node, (ast.For, ast.comprehension))]
            for node in ast.walk(tree):
                if isinstance(node, ast.Call) and isinstance(node.func, ast.Name) and node.func.id in WALKING:
                    walked += node.args
            for node in ast.walk(tree):
                if isinstance(node, ast.Call):
                    name = getattr(node.func, "id", getattr(node.func, "attr", None))
                    if name in WALKED:
                        self.assertTrue(any(node is other for other in walked), f"{path.name}:{node.lineno}")

    def test_lambdas_exponents_and_signs_in_texts(self):
        lambdas = [(where, ast.unparse(node.args)) for where, node in nodes((ast.Lambda,))]
        self.assertEqual(len(lambdas), len(set(lambdas)))
        for where, node in nodes((ast.BinOp,)):
            if isinstance(node.op, ast.Pow):
                self.assertIn(getattr(node.right, "value", None), range(65), where)
        for where, node in nodes((ast.Constant,)):
            if isinstance(node.value, str):
                self.assertNotIn(chr(37), node.value, where)

    def test_sets_lists_of_the_top_and_truths(self):
        for where, node in nodes((ast.Call,)):
            self.assertNotIn(getattr(node.func, "id", None), ("set", "frozenset"), where)
        for path in FILES:
            for node in parsed(path).body:
                if isinstance(node, ast.Assign):
                    self.assertIsInstance(node.value, (ast.Constant, ast.Tuple), f"{path.name}:{node.lineno}")
        for where, node in nodes((ast.Compare,)):
            for op, right in zip(node.ops, node.comparators):
                if isinstance(op, (ast.Is, ast.IsNot)):
                    self.assertIn(right.value, (None, True, False), where)


class Names(unittest.TestCase):
    def test_names_of_pythons_own(self):
        for where, node in nodes((ast.Name,)):
            if hasattr(builtins, node.id):
                self.assertIn(node.id, OWN_NAMES, where)
            self.assertNotIn(node.id, UNUSED, where)

    def test_methods_of_pythons_own(self):
        for where, node in nodes((ast.Attribute,)):
            methods = [name for other, found in nodes((ast.FunctionDef,)) for name in [found.name]]
            self.assertIn(node.attr, METHODS + methods, where)

    def test_plain_names_that_shadow_nothing(self):
        for path in FILES:
            taken = [alias.name for node in imports(path) for alias in node.names] + dir(builtins)
            for node in parsed(path).body:
                if not isinstance(node, ast.ImportFrom):
                    for name in bound_names(node):
                        self.assertRegex(name, r"^([A-Za-z][A-Za-z0-9_]*|__(init|eq|repr|str|len)__)$", path.name)
                        self.assertNotIn(name, taken, path.name)


if __name__ == "__main__":
    unittest.main()
