"""The package's form: the rules of ../shared/LANGUAGE.md that a walk through the code can see."""

import ast
import builtins
import pathlib
import re
import unittest

PACKAGE = pathlib.Path(__file__).resolve().parent.parent / "raceresults"
FILES = sorted(path for path in PACKAGE.rglob("*") if path.is_file() and "__pycache__" not in path.parts)
BUILTIN_NAMES = set(vars(builtins)) - {"__init__"}
OTHER_FILES = {name for name in vars(builtins) if not name.startswith("__")} | {"site", "conftest", "__main__"}
INTERFACE = {"results.py": {"judge": ["card", "result"], "came": ["race", "card", "result"],
                            "told": ["pool", "card", "result"], "right": ["pool", "number", "card", "result"],
                            "won": ["pool", "i", "card", "result"], "refunds": ["pool", "card", "result"]}}

ALLOWED_BUILTINS = set("""len range enumerate zip min max sum abs sorted reversed int str bool list tuple dict set
frozenset isinstance ord repr any all divmod Exception ValueError TypeError KeyError IndexError LookupError
ZeroDivisionError ArithmeticError OverflowError RuntimeError NotImplementedError AttributeError StopIteration""".split())
ALLOWED_METHODS = set("""append clear copy count endswith extend find get index insert isalnum isalpha isdigit islower
isspace isupper items join keys ljust lower lstrip partition pop remove replace reverse rfind rjust rpartition rsplit
rstrip setdefault split splitlines startswith strip update upper values zfill bit_length __init__""".split())
WORDS_NOWHERE = set("""type typing typing_extensions enum Enum IntEnum StrEnum Flag IntFlag Generic Protocol ABC ABCMeta
namedtuple NamedTuple TypedDict TYPE_CHECKING abstractmethod""".split())
NAMES_NOWHERE = set("""register mro elements open input version_info with_traceback add_note attrgetter breakpoint
builtins compile copyright credits delattr dir eval exec exit gc getattr globals hasattr help id importlib license locals
methodcaller os quit setattr super vars sys __name__ format format_map""".split())
STATEMENTS = (ast.Assign, ast.AugAssign, ast.AnnAssign, ast.If, ast.While, ast.For, ast.Return, ast.Break, ast.Continue,
              ast.Pass, ast.Raise, ast.Try, ast.Expr, ast.FunctionDef, ast.ClassDef, ast.ImportFrom)
NOT_ALLOWED = (ast.Starred, ast.NamedExpr, ast.GeneratorExp, ast.SetComp, ast.DictComp, ast.Div, ast.MatMult, ast.Await,
               ast.Yield, ast.YieldFrom)
TAKEN_NEVER = set("""Exception TypeError ArithmeticError OverflowError RuntimeError NotImplementedError
AttributeError""".split())


def trees():
    return [(path, ast.parse(path.read_text("utf-8"))) for path in FILES]


def nodes(tree, *kinds):
    return [node for node in ast.walk(tree) if isinstance(node, kinds)]


def parameters(define):
    given = define.args
    return given.posonlyargs + given.args + given.kwonlyargs


def bound_names(tree):
    names = [node.id for node in nodes(tree, ast.Name) if isinstance(node.ctx, ast.Store)]
    names += [node.arg for node in nodes(tree, ast.arg)]
    names += [node.name for node in nodes(tree, ast.FunctionDef, ast.ClassDef)]
    return names + [node.name for node in nodes(tree, ast.ExceptHandler) if node.name]


def file_names(tree):
    imports = [alias.name for node in nodes(tree, ast.ImportFrom) for alias in node.names]
    return imports + [node.name for node in nodes(tree, ast.ClassDef)]


class Form(unittest.TestCase):
    def test_files(self):
        self.assertTrue((PACKAGE / "__init__.py").exists())
        for path in FILES:
            self.assertRegex(path.name, r"\A[a-z0-9_]+\.py\Z")
            self.assertFalse(path.stem in OTHER_FILES or path.stem.startswith("test"), path)

    def test_sizes_and_signs(self):
        for path, tree in trees():
            lines = path.read_text("utf-8").split("\n")
            self.assertLess(len(lines), 400, path)
            for line in lines:
                self.assertRegex(line, r"\A[ -~]{0,120}\Z", path)
            for define in nodes(tree, ast.FunctionDef):
                self.assertLessEqual(define.end_lineno - define.lineno + 1, 40, define.name)

    def test_words_that_stand_nowhere(self):
        for path in FILES:
            text = path.read_text("utf-8")
            self.assertEqual(set(re.findall(r"\w+", text)) & WORDS_NOWHERE, set(), path)
            self.assertNotRegex(text, "dataclass|overload|contextmanager", path)

    def test_imports(self):
        drawn = {}
        for path, tree in trees():
            self.assertEqual(nodes(tree, ast.Import), [], path)
            drawn[path.stem] = []
            for node in nodes(tree, ast.ImportFrom):
                self.assertIn(node, tree.body)
                self.assertRegex(node.module, r"\Araceresults\.[a-z0-9_]+\Z")
                drawn[path.stem].append(node.module.split(".")[1])
                source = ast.parse((PACKAGE / (node.module.split(".")[1] + ".py")).read_text("utf-8"))
                for alias in node.names:
                    self.assertIsNone(alias.asname)
                    defined = [name for part in source.body if not isinstance(part, ast.ImportFrom)
                               for name in bound_names(part)]
                    self.assertIn(alias.name, defined)
        while drawn:
            free = [name for name in drawn if not any(other in drawn for other in drawn[name])]
            self.assertTrue(free, "files draw from one another")
            drawn = {name: drawn[name] for name in drawn if name not in free}

    def test_statements(self):
        for path, tree in trees():
            for node in nodes(tree, ast.stmt):
                self.assertIsInstance(node, STATEMENTS, path)
                if isinstance(node, (ast.While, ast.For)):
                    self.assertEqual(node.orelse, [], path)
                if isinstance(node, ast.Assign):
                    self.assertEqual(len(node.targets), 1, path)
                if isinstance(node, ast.Try):
                    self.assertEqual(node.finalbody, [], path)
                if isinstance(node, ast.Expr) and node is not tree.body[0]:
                    self.assertIsInstance(node.value, ast.Call, path)
            self.assertEqual(nodes(tree, *NOT_ALLOWED), [], path)
            for node in nodes(tree, ast.ListComp):
                self.assertEqual(len(node.generators), 1)
                self.assertLessEqual(len(node.generators[0].ifs), 1)

    def test_values(self):
        for path, tree in trees():
            for node in nodes(tree, ast.Constant):
                self.assertIsInstance(node.value, (int, str, type(None)), path)
                if isinstance(node.value, str):
                    self.assertNotIn("%", node.value, path)
            for node in nodes(tree, ast.Compare):
                for sign, side in zip(node.ops, node.comparators):
                    if isinstance(sign, (ast.Is, ast.IsNot)):
                        self.assertIsInstance(side, ast.Constant, path)
            for node in nodes(tree, ast.BinOp):
                if isinstance(node.op, ast.Pow):
                    self.assertIsInstance(node.right, ast.Constant, path)

    def test_functions(self):
        for path, tree in trees():
            for node in nodes(tree, ast.FunctionDef):
                self.assertEqual(node.decorator_list, [], path)
                self.assertTrue(node.args.vararg is None and node.args.kwarg is None and not node.args.kwonlyargs)
            for node in nodes(tree, ast.ClassDef):
                self.assertIn(node, tree.body)
                self.assertEqual((node.decorator_list, node.keywords), ([], []), path)
                self.assertLessEqual(len(node.bases), 1)
                self.assertTrue(all(isinstance(part, (ast.FunctionDef, ast.Pass)) for part in node.body))

    def test_names(self):
        for path, tree in trees():
            names = bound_names(tree)
            for name in names:
                if name != "__init__":
                    self.assertRegex(name, r"\A[A-Za-z][A-Za-z0-9_]*\Z", path)
                    self.assertFalse(name in BUILTIN_NAMES, name)
            for define in nodes(tree, ast.FunctionDef):
                inner = [part.arg for part in parameters(define)]
                inner += [node.id for node in nodes(define, ast.Name) if isinstance(node.ctx, ast.Store)]
                self.assertEqual(set(inner) & set(file_names(tree)), set(), path)
            known = set(names) | set(file_names(tree)) | ALLOWED_BUILTINS
            used = {node.id for node in nodes(tree, ast.Name)} | {node.attr for node in nodes(tree, ast.Attribute)}
            self.assertEqual({node.id for node in nodes(tree, ast.Name)} - known, set(), path)
            self.assertEqual(used & NAMES_NOWHERE, set(), path)

    def test_top_names_are_bound_once(self):
        for path, tree in trees():
            tops = [node.name for node in tree.body if isinstance(node, (ast.FunctionDef, ast.ClassDef))]
            tops += [target.id for node in tree.body if isinstance(node, ast.Assign) for target in node.targets]
            self.assertEqual(len(tops), len(set(tops)), path)

    def test_methods_and_attributes(self):
        methods, values = set(), set()
        for path, tree in trees():
            for place in nodes(tree, ast.ClassDef):
                own = [node.name for node in place.body if isinstance(node, ast.FunctionDef)]
                self.assertEqual(len(own), len(set(own)), path)
                methods |= set(own) - {"__init__"}
            values |= {node.attr for node in nodes(tree, ast.Attribute) if isinstance(node.ctx, ast.Store)}
        self.assertEqual(methods & values, set())
        for path, tree in trees():
            used = {node.attr for node in nodes(tree, ast.Attribute)}
            self.assertEqual(used - methods - values - ALLOWED_METHODS, set(), path)

    def test_errors(self):
        for path, tree in trees():
            for node in nodes(tree, ast.ExceptHandler):
                self.assertIsInstance(node.type, ast.Name, path)
                self.assertNotIn(node.type.id, TAKEN_NEVER, path)
            for node in nodes(tree, ast.Raise):
                self.assertIsInstance(node.exc, ast.Call, path)

    def test_nothing_is_walked_later(self):
        walked = ("zip", "enumerate", "reversed", "range", "items", "keys", "values")
        for path, tree in trees():
            for node in nodes(tree, ast.Assign, ast.Return):
                call = node.value
                if isinstance(call, ast.Call):
                    name = call.func.id if isinstance(call.func, ast.Name) else getattr(call.func, "attr", "")
                    self.assertNotIn(name, walked, path)

    def test_interface(self):
        told = [name for each in INTERFACE.values() for name in each]
        for path, tree in trees():
            found = {node.name: [part.arg for part in parameters(node)] for node in tree.body
                     if isinstance(node, ast.FunctionDef) and node.name in told}
            self.assertEqual(found, INTERFACE.get(path.name, {}))
            for node in tree.body:
                if isinstance(node, ast.FunctionDef) and node.name in told:
                    self.assertEqual(node.args.defaults, [])
