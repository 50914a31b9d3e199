"""The package keeps to its small part of Python: what can be seen of rules L1 to L28 in its files."""

import ast
import builtins
import pathlib
import re
import unittest

import kinghalldesk

FOLDER = pathlib.Path(kinghalldesk.__file__).parent
NAMES = set("""len range enumerate zip min max sum abs sorted reversed int str bool list tuple dict set frozenset
    isinstance ord repr any all divmod Exception ValueError TypeError KeyError IndexError LookupError
    ZeroDivisionError ArithmeticError OverflowError RuntimeError NotImplementedError AttributeError
    StopIteration""".split())
METHODS = set("""append clear copy count endswith extend find get index insert isalnum isalpha isdigit islower
    isspace isupper items join keys ljust lower lstrip partition pop remove replace reverse rfind rjust
    rpartition rsplit rstrip setdefault split splitlines startswith strip update upper values zfill
    bit_length""".split())
UNDERSCORED = {"__init__", "__eq__", "__repr__", "__str__", "__len__"}
UNUSED_NAMES = set("""register mro elements open input version_info with_traceback add_note attrgetter breakpoint
    builtins compile copyright credits delattr dir eval exec exit gc getattr globals hasattr help id importlib
    license locals methodcaller os quit setattr super type vars sys format format_map""".split())
UNSAID = re.compile(r"\b(type|typing|typing_extensions|enum|Enum|IntEnum|StrEnum|Flag|IntFlag|Generic|Protocol|ABC"
                    r"|ABCMeta|namedtuple|NamedTuple|TypedDict|TYPE_CHECKING|abstractmethod)\b"
                    r"|dataclass|overload|contextmanager")
FILES_UNNAMED = {"test", "tests", "testing", "site", "conftest", "sitecustomize", "usercustomize"} | set(dir(builtins))
STATEMENTS = (ast.Assign, ast.AugAssign, ast.If, ast.While, ast.For, ast.Return, ast.Break, ast.Continue, ast.Pass,
              ast.Raise, ast.Try, ast.Expr, ast.FunctionDef, ast.ClassDef, ast.ImportFrom)
EXPRESSIONS = (ast.Constant, ast.List, ast.Tuple, ast.Dict, ast.BinOp, ast.UnaryOp, ast.BoolOp, ast.Compare, ast.IfExp,
               ast.Call, ast.Attribute, ast.Subscript, ast.Slice, ast.ListComp, ast.Name, ast.Lambda, ast.JoinedStr,
               ast.FormattedValue)
OPERATORS = (ast.Add, ast.Sub, ast.Mult, ast.FloorDiv, ast.Mod, ast.Pow, ast.LShift, ast.RShift, ast.BitOr,
             ast.BitXor, ast.BitAnd)
WALKED = {"range", "enumerate", "zip", "reversed"}
WALKERS = {"list", "tuple", "dict", "sorted", "sum", "any", "all", "enumerate", "zip", "min", "max"}
OWN_SET = {"set", "frozenset"}


def files():
    return sorted(path for path in FOLDER.rglob("*") if path.is_file() and "__pycache__" not in path.parts)


def trees():
    return {path: ast.parse(path.read_text(encoding="utf-8")) for path in files()}


def top_names(tree):
    named = []
    for part in tree.body:
        if isinstance(part, (ast.FunctionDef, ast.ClassDef)):
            named.append(part.name)
        elif isinstance(part, ast.Assign):
            named.append(part.targets[0].id)
    return named


def drawn_names(tree):
    return [name.name for part in tree.body if isinstance(part, ast.ImportFrom) for name in part.names]


def is_plain(value):
    if isinstance(value, ast.UnaryOp):
        return isinstance(value.op, ast.USub) and is_plain(value.operand)
    if isinstance(value, (ast.Tuple, ast.List)):
        return all(is_plain(part) for part in value.elts)
    if isinstance(value, ast.Dict):
        return all(is_plain(part) for part in value.keys + value.values)
    return isinstance(value, (ast.Constant, ast.Name))


def bound_in(function):
    named = {arg.arg for arg in function.args.args}
    for node in ast.walk(function):
        if isinstance(node, ast.Name) and isinstance(node.ctx, ast.Store):
            named.add(node.id)
        if isinstance(node, ast.ExceptHandler) and node.name:
            named.add(node.name)
        if isinstance(node, ast.Lambda):
            named |= {arg.arg for arg in node.args.args}
    return named


class Files(unittest.TestCase):
    def test_names_of_files(self):
        self.assertTrue((FOLDER / "__init__.py").exists())
        for path in files():
            self.assertRegex(path.name, r"^([a-z][a-z0-9_]*|__init__|__main__)\.py$")
            self.assertNotIn(path.stem, FILES_UNNAMED)
            self.assertFalse(path.stem.startswith("test_"))

    def test_signs_and_sizes(self):
        for path in files():
            told = path.read_bytes()
            self.assertFalse([byte for byte in told if byte != 10 and not 32 <= byte <= 126], path)
            rows = told.decode("ascii").split("\n")
            self.assertLessEqual(len(rows), 400, path)
            self.assertLessEqual(max(len(row) for row in rows), 120, path)
            self.assertIsNone(UNSAID.search(told.decode("ascii")), path)

    def test_length_of_functions(self):
        for path, tree in trees().items():
            for node in ast.walk(tree):
                if isinstance(node, ast.FunctionDef):
                    self.assertLessEqual(node.end_lineno - node.lineno + 1, 40, (path, node.name))


class Tops(unittest.TestCase):
    def test_what_stands_at_the_top(self):
        for path, tree in trees().items():
            for number, part in enumerate(tree.body):
                if number == 0 and isinstance(part, ast.Expr):
                    self.assertIsInstance(part.value.value, str)
                    continue
                self.assertIsInstance(part, (ast.ImportFrom, ast.FunctionDef, ast.ClassDef, ast.Assign), path)
                if isinstance(part, ast.Assign):
                    self.assertIsInstance(part.targets[0], ast.Name)
                    self.assertTrue(is_plain(part.value), (path, part.lineno))
            named = top_names(tree) + drawn_names(tree)
            self.assertEqual(len(named), len(set(named)), path)

    def test_imports(self):
        known = trees()
        draws = {}
        for path, tree in known.items():
            inner = [node for node in ast.walk(tree) if isinstance(node, (ast.Import, ast.ImportFrom))]
            self.assertEqual(inner, [part for part in tree.body if isinstance(part, ast.ImportFrom)], path)
            draws[path.stem] = set()
            for part in inner:
                self.assertEqual(part.level, 0)
                package, _, module = part.module.partition(".")
                self.assertEqual(package, "kinghalldesk")
                defined = top_names(known[FOLDER / f"{module}.py"])
                for name in part.names:
                    self.assertIsNone(name.asname)
                    self.assertIn(name.name, defined)
                draws[path.stem].add(module)
        while draws:
            last = [stem for stem in draws if not draws[stem] & set(draws)]
            self.assertTrue(last, "files draw from one another")
            for stem in last:
                draws.pop(stem)

    def test_init_binds_nothing(self):
        tree = trees()[FOLDER / "__init__.py"]
        self.assertEqual(top_names(tree) + drawn_names(tree), [])


class Nodes(unittest.TestCase):
    def each(self, *kinds):
        for path, tree in trees().items():
            for node in ast.walk(tree):
                if isinstance(node, kinds):
                    yield f"{path.name}:{getattr(node, 'lineno', 0)}", node

    def test_statements(self):
        for path, tree in trees().items():
            for node in ast.walk(tree):
                if not isinstance(node, ast.stmt):
                    continue
                self.assertIsInstance(node, STATEMENTS, (path, node.lineno))
                if isinstance(node, ast.Expr) and node is not tree.body[0]:
                    self.assertIsInstance(node.value, ast.Call, (path, node.lineno))
                if isinstance(node, ast.Assign):
                    self.assertEqual(len(node.targets), 1, (path, node.lineno))
                if isinstance(node, (ast.For, ast.While)):
                    self.assertEqual(node.orelse, [], (path, node.lineno))
                if isinstance(node, ast.Try):
                    self.assertEqual(node.finalbody, [], (path, node.lineno))

    def test_expressions(self):
        for where, node in self.each(ast.expr):
            self.assertIsInstance(node, EXPRESSIONS, where)
        for where, node in self.each(ast.operator):
            self.assertIsInstance(node, OPERATORS, where)
        for where, node in self.each(ast.Constant):
            self.assertIn(type(node.value), (int, str, bool, type(None)), where)
            if isinstance(node.value, str):
                self.assertNotIn(chr(37), node.value, where)
        for where, node in self.each(ast.ListComp):
            self.assertEqual(len(node.generators), 1, where)
            self.assertLessEqual(len(node.generators[0].ifs), 1, where)
        for where, node in self.each(ast.Pow):
            self.fail(where)

    def test_is_stands_beside_none_alone(self):
        for where, node in self.each(ast.Compare):
            for operator, right in zip(node.ops, node.comparators):
                if isinstance(operator, (ast.Is, ast.IsNot)):
                    self.assertIsInstance(right, ast.Constant, where)
                    self.assertIn(right.value, (None, True, False), where)

    def test_functions(self):
        for where, node in self.each(ast.FunctionDef):
            told = node.args
            self.assertFalse(told.vararg or told.kwarg or told.kwonlyargs or told.posonlyargs, where)
            self.assertEqual(node.decorator_list, [], where)
            self.assertIsNone(node.returns, where)
            self.assertFalse([arg for arg in told.args if arg.annotation], where)

    def test_classes(self):
        methods, values = set(), set()
        for where, node in self.each(ast.ClassDef):
            self.assertEqual((node.decorator_list, node.keywords), ([], []), where)
            self.assertLessEqual(len(node.bases), 1, where)
            for part in node.body:
                self.assertIsInstance(part, (ast.FunctionDef, ast.Pass), where)
                if isinstance(part, ast.FunctionDef):
                    self.assertTrue(part.name in UNDERSCORED or not part.name.startswith("_"), where)
                    methods.add(part.name)
        for _, node in self.each(ast.Attribute):
            if isinstance(node.ctx, ast.Store):
                values.add(node.attr)
        self.assertEqual(methods & values, set())
        pythons = set().union(*(set(dir(kind)) for kind in (str, int, list, dict, set, bytes)))
        self.assertEqual(values & pythons, set())
        self.assertEqual((methods - UNDERSCORED) & pythons, set())

    def test_methods_that_are_called(self):
        own = {node.name for _, node in self.each(ast.FunctionDef)}
        for where, node in self.each(ast.Call):
            if isinstance(node.func, ast.Attribute):
                self.assertIn(node.func.attr, METHODS | own, where)
                self.assertEqual(node.keywords, [], where)

    def test_sets_are_not_kept(self):
        for where, node in self.each(ast.Name):
            self.assertNotIn(node.id, OWN_SET, where)

    def test_walked_at_once(self):
        allowed = set()
        for path, tree in trees().items():
            for node in ast.walk(tree):
                if isinstance(node, (ast.For, ast.comprehension)):
                    allowed.add((path, node.iter.lineno, node.iter.col_offset))
                if isinstance(node, ast.Call) and isinstance(node.func, ast.Name) and node.func.id in WALKERS:
                    allowed.update((path, arg.lineno, arg.col_offset) for arg in node.args[:1])
        for path, tree in trees().items():
            for node in ast.walk(tree):
                if isinstance(node, ast.Call) and isinstance(node.func, ast.Name) and node.func.id in WALKED:
                    self.assertIn((path, node.lineno, node.col_offset), allowed)

    def test_errors(self):
        own = {node.name for _, node in self.each(ast.ClassDef)}
        for where, node in self.each(ast.ExceptHandler):
            self.assertIsInstance(node.type, ast.Name, where)
            self.assertIn(node.type.id, own | {"KeyError", "ZeroDivisionError"}, where)
        for where, node in self.each(ast.Raise):
            self.assertIsInstance(node.exc, ast.Call, where)


class Names(unittest.TestCase):
    def test_names_are_plain_words(self):
        for path, tree in trees().items():
            for node in ast.walk(tree):
                name = getattr(node, "id", None) or getattr(node, "arg", None) or getattr(node, "attr", None)
                if isinstance(name, str):
                    plain = re.fullmatch(r"[A-Za-z][A-Za-z0-9_]*", name) or name in UNDERSCORED
                    self.assertTrue(plain, (path, name))
                    self.assertNotIn(name, UNUSED_NAMES, path)

    def test_every_name_is_known_and_none_is_given_another_meaning(self):
        for path, tree in trees().items():
            top = set(top_names(tree)) | set(drawn_names(tree))
            self.assertFalse(top & set(dir(builtins)), path)
            for function in [node for node in ast.walk(tree) if isinstance(node, ast.FunctionDef)]:
                bound = bound_in(function)
                self.assertFalse(bound & (set(dir(builtins)) | top), (path, function.name, bound & top))
                for node in ast.walk(function):
                    if isinstance(node, ast.Name) and isinstance(node.ctx, ast.Load):
                        self.assertIn(node.id, bound | top | NAMES, (path, node.lineno))

    def test_every_import_is_used(self):
        for path, tree in trees().items():
            used = {node.id for node in ast.walk(tree) if isinstance(node, ast.Name)}
            self.assertLessEqual(set(drawn_names(tree)), used, path)


if __name__ == "__main__":
    unittest.main()
