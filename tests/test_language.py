"""The package keeps to the small part of Python that it's written in, as far as a rule can be seen in its files."""

import ast
import builtins
import io
import pathlib
import re
import tokenize
import unittest

PACKAGE = pathlib.Path(__file__).resolve().parent.parent / "axisprograms"

STATEMENTS = (ast.Assign, ast.AugAssign, ast.If, ast.While, ast.For, ast.Return, ast.Break, ast.Continue, ast.Pass,
              ast.Raise, ast.Try, ast.Expr, ast.FunctionDef, ast.ClassDef, ast.ImportFrom)
EXPRESSIONS = (ast.Constant, ast.List, ast.Tuple, ast.Dict, ast.BinOp, ast.UnaryOp, ast.BoolOp, ast.Compare, ast.IfExp,
               ast.Call, ast.Attribute, ast.Subscript, ast.Slice, ast.ListComp, ast.Name, ast.Lambda, ast.JoinedStr,
               ast.FormattedValue, ast.Set)
OPERATORS = (ast.Add, ast.Sub, ast.Mult, ast.FloorDiv, ast.Mod, ast.Pow, ast.BitAnd, ast.BitOr, ast.BitXor, ast.LShift,
             ast.RShift)
OWN_NAMES = set("""len range enumerate zip min max sum abs sorted reversed int str bool list tuple dict set frozenset
    isinstance ord repr any all divmod Exception ValueError TypeError KeyError IndexError LookupError ZeroDivisionError
    ArithmeticError OverflowError RuntimeError NotImplementedError AttributeError StopIteration""".split())
OWN_METHODS = set("""append clear copy count endswith extend find get index insert isalnum isalpha isdigit islower isspace
    isupper items join keys ljust lower lstrip partition pop remove replace reverse rfind rjust rpartition rsplit rstrip
    setdefault split splitlines startswith strip update upper values zfill bit_length""".split())
CHANGING = set("append clear extend insert pop remove reverse setdefault update".split())
VALUE_NAMES = set("count index title find get join lower upper split strip copy add".split())
NOWHERE = set("register mro elements open input version_info with_traceback add_note format format_map".split())
NO_NAMES = set("""attrgetter breakpoint builtins compile copyright credits delattr dir eval exec exit gc getattr globals
    hasattr help id importlib license locals methodcaller os quit setattr super type vars sys chr""".split())
NO_WORDS = set("""type typing typing_extensions enum Enum IntEnum StrEnum Flag IntFlag Generic Protocol ABC ABCMeta
    namedtuple NamedTuple TypedDict TYPE_CHECKING abstractmethod""".split())
NO_FILES = {"test", "tests", "testing", "site", "conftest", "sitecustomize", "usercustomize"} | NO_WORDS | set(dir(builtins))


def files():
    return sorted(PACKAGE.rglob("*.py"))


def trees():
    return [(path, ast.parse(path.read_text())) for path in files()]


def everywhere(*wanted):
    for path, tree in trees():
        for node in ast.walk(tree):
            if isinstance(node, wanted):
                yield path, node


def where(path, node):
    return path.name + ":" + str(getattr(node, "lineno", 0))


def bound_at_top(tree):
    names = []
    for node in tree.body:
        if isinstance(node, (ast.FunctionDef, ast.ClassDef)):
            names.append(node.name)
        elif isinstance(node, ast.Assign):
            names.append(node.targets[0].id)
        elif isinstance(node, ast.ImportFrom):
            names.extend([alias.name for alias in node.names])
    return names


def is_plain(node, functions):
    if isinstance(node, ast.Constant):
        return node.value is None or isinstance(node.value, (int, str))
    if isinstance(node, ast.UnaryOp):
        return isinstance(node.op, ast.USub) and isinstance(node.operand, ast.Constant)
    if isinstance(node, (ast.Tuple, ast.List)):
        return all(is_plain(part, functions) and not isinstance(part, (ast.List, ast.Dict)) for part in node.elts)
    if isinstance(node, ast.Dict):
        return all(is_plain(part, functions) and not isinstance(part, (ast.List, ast.Dict))
                   for part in node.keys + node.values)
    return isinstance(node, ast.Name) and node.id in functions


class Files(unittest.TestCase):

    def test_nothing_but_python_files(self):
        self.assertTrue((PACKAGE / "__init__.py").is_file())
        for path in PACKAGE.rglob("*"):
            if "__pycache__" in path.parts:
                continue
            self.assertTrue(path.is_file(), path)
            if path.name != "__init__.py":
                self.assertRegex(path.name, r"\A[a-z][a-z0-9_]*\.py\Z")
                self.assertNotIn(path.stem, NO_FILES)

    def test_sizes_and_signs(self):
        for path in files():
            data = path.read_bytes()
            self.assertTrue(all(byte == 10 or 32 <= byte <= 126 for byte in data), path)
            rows = data.decode("ascii").split("\n")
            self.assertLessEqual(len(rows), 401, path)
            self.assertLessEqual(max(len(row) for row in rows), 120, path)
        for path, node in everywhere(ast.FunctionDef):
            self.assertLessEqual(node.end_lineno - node.lineno + 1, 40, where(path, node))

    def test_words_that_stand_nowhere(self):
        for path in files():
            text = path.read_text()
            self.assertFalse(set(re.findall(r"[A-Za-z0-9_]+", text)) & NO_WORDS, path)
            for part in ("dataclass", "overload", "contextmanager"):
                self.assertNotIn(part, text, path)

    def test_texts(self):
        for path in files():
            for token in tokenize.generate_tokens(io.StringIO(path.read_text()).readline):
                if token.type == tokenize.STRING:
                    self.assertNotIn("%", token.string, path)
                    self.assertFalse(set(re.findall(r"\\(.)", token.string)) - set("nt\\\"'"), path)
                    self.assertIn(token.string[0], "\"'", path)


class Tops(unittest.TestCase):

    def test_what_stands_at_the_top(self):
        for path, tree in trees():
            functions = []
            for number, node in enumerate(tree.body):
                if isinstance(node, ast.FunctionDef):
                    functions.append(node.name)
                elif isinstance(node, ast.Assign):
                    self.assertIsInstance(node.targets[0], ast.Name, where(path, node))
                    self.assertTrue(is_plain(node.value, functions), where(path, node))
                elif isinstance(node, ast.Expr):
                    self.assertEqual(number, 0, where(path, node))
                else:
                    self.assertIsInstance(node, (ast.ClassDef, ast.ImportFrom), where(path, node))
            names = bound_at_top(tree)
            self.assertEqual(len(names), len(set(names)), path)

    def test_imports(self):
        drawn = {}
        tops = {path.stem: bound_at_top(tree) for path, tree in trees()}
        for path, tree in trees():
            drawn[path.stem] = []
            for node in ast.walk(tree):
                self.assertNotIsInstance(node, ast.Import, where(path, node))
                if isinstance(node, ast.ImportFrom):
                    self.assertIn(node, tree.body)
                    self.assertEqual(node.level, 0)
                    self.assertRegex(node.module, r"\Aaxisprograms\.[a-z_]+\Z")
                    stem = node.module.split(".")[1]
                    drawn[path.stem].append(stem)
                    for alias in node.names:
                        self.assertIsNone(alias.asname)
                        self.assertIn(alias.name, tops[stem])
        while drawn:
            leaves = [stem for stem in drawn if not any(other in drawn for other in drawn[stem])]
            self.assertTrue(leaves, drawn)
            for stem in leaves:
                drawn.pop(stem)

    def test_lists_and_dicts_of_the_top_are_only_read(self):
        kept = {target.id for path, tree in trees() for node in tree.body if isinstance(node, ast.Assign)
                for target in node.targets if isinstance(node.value, (ast.List, ast.Dict))}
        for path, node in everywhere(ast.FunctionDef):
            fine = []
            for inner in ast.walk(node):
                if isinstance(inner, ast.Subscript) and isinstance(inner.ctx, ast.Load):
                    fine.append(inner.value)
                elif isinstance(inner, ast.Compare):
                    fine.extend(inner.comparators)
                elif isinstance(inner, ast.Attribute) and inner.attr in ("get", "items", "keys", "values"):
                    fine.append(inner.value)
                elif isinstance(inner, ast.For):
                    fine.append(inner.iter)
            for inner in ast.walk(node):
                if isinstance(inner, ast.Name) and inner.id in kept:
                    self.assertIn(inner, fine, where(path, inner))


class Forms(unittest.TestCase):

    def test_statements_and_expressions(self):
        for path, node in everywhere(ast.stmt):
            self.assertIsInstance(node, STATEMENTS, where(path, node))
            self.assertFalse(isinstance(node, (ast.For, ast.While)) and node.orelse, where(path, node))
            self.assertFalse(isinstance(node, ast.Try) and node.finalbody, where(path, node))
            self.assertFalse(isinstance(node, ast.Assign) and len(node.targets) > 1, where(path, node))
            if isinstance(node, ast.Expr):
                self.assertTrue(isinstance(node.value, ast.Call) or isinstance(getattr(node.value, "value", 0), str))
        for path, node in everywhere(ast.expr):
            self.assertIsInstance(node, EXPRESSIONS, where(path, node))
            if isinstance(node, ast.Constant):
                self.assertTrue(node.value is None or isinstance(node.value, (int, str)), where(path, node))
            if isinstance(node, ast.ListComp):
                self.assertEqual(len(node.generators), 1)
                self.assertLessEqual(len(node.generators[0].ifs), 1)
            if isinstance(node, (ast.BinOp, ast.AugAssign)):
                self.assertIsInstance(node.op, OPERATORS, where(path, node))
                self.assertFalse(isinstance(node.op, ast.Pow) and not isinstance(node.right, ast.Constant))

    def test_functions_and_classes(self):
        for path, node in everywhere(ast.FunctionDef):
            given = node.args
            self.assertFalse(given.vararg or given.kwarg or given.kwonlyargs or given.posonlyargs, where(path, node))
            self.assertFalse(node.decorator_list or node.returns, where(path, node))
            self.assertFalse([part for part in given.args if part.annotation], where(path, node))
            self.assertTrue(all(is_plain(part, []) for part in given.defaults), where(path, node))
        for path, node in everywhere(ast.ClassDef):
            self.assertFalse(node.decorator_list or node.keywords or len(node.bases) > 1, where(path, node))
            for part in node.body:
                self.assertTrue(isinstance(part, ast.FunctionDef) or isinstance(part, ast.Expr), where(path, part))

    def test_is_stands_beside_none_true_and_false(self):
        for path, node in everywhere(ast.Compare):
            for operator, right in zip(node.ops, node.comparators):
                if isinstance(operator, (ast.Is, ast.IsNot)):
                    self.assertTrue(isinstance(right, ast.Constant) and right.value in (None, True, False))

    def test_errors(self):
        for path, node in everywhere(ast.ExceptHandler):
            self.assertIsNotNone(node.type, where(path, node))
        for path, node in everywhere(ast.Raise):
            self.assertIsInstance(node.exc, ast.Call, where(path, node))


class Names(unittest.TestCase):

    def test_each_name(self):
        for path, tree in trees():
            for node in ast.walk(tree):
                for name in names_of(node):
                    if name not in ("__init__",):
                        self.assertRegex(name, r"\A[A-Za-z][A-Za-z0-9_]*\Z", where(path, node))
                    self.assertNotIn(name, NOWHERE, where(path, node))
                    if not isinstance(node, ast.Attribute):
                        self.assertNotIn(name, NO_NAMES, where(path, node))

    def test_names_of_pythons_own(self):
        for path, tree in trees():
            known = set(bound_at_top(tree))
            self.assertFalse(known & set(dir(builtins)), path)
            for function in [node for node in ast.walk(tree) if isinstance(node, ast.FunctionDef)]:
                local = {part.arg for part in function.args.args}
                local |= {node.id for node in ast.walk(function)
                          if isinstance(node, ast.Name) and isinstance(node.ctx, ast.Store)}
                self.assertFalse(local & set(dir(builtins)), where(path, function))
                self.assertFalse(local & known, where(path, function))
                for node in ast.walk(function):
                    if isinstance(node, ast.Name) and isinstance(node.ctx, ast.Load):
                        self.assertIn(node.id, local | known | OWN_NAMES, where(path, node))

    def test_methods_and_values(self):
        methods = {part.name for path, node in everywhere(ast.ClassDef) for part in node.body
                   if isinstance(part, ast.FunctionDef)}
        stored = {node.attr for path, node in everywhere(ast.Attribute) if isinstance(node.ctx, ast.Store)}
        self.assertFalse(methods & stored)
        taken = {name for kind in (str, int, list, dict, set, bytes, tuple) for name in dir(kind)}
        self.assertFalse((stored & taken) - VALUE_NAMES)
        self.assertFalse((methods - {"__init__"}) & (taken - OWN_METHODS - {"add", "discard"}))
        called = [node.func for path, node in everywhere(ast.Call)]
        for path, node in everywhere(ast.Attribute):
            if node in called or node.attr not in stored:
                self.assertIn(node.attr, OWN_METHODS | methods | stored, where(path, node))

    def test_what_a_loop_walks_is_not_changed_in_it(self):
        for path, loop in everywhere(ast.For):
            walked = {ast.unparse(loop.iter)}
            if isinstance(loop.iter, ast.Call):
                walked |= {ast.unparse(part) for part in loop.iter.args}
            for node in [inner for statement in loop.body for inner in ast.walk(statement)]:
                if isinstance(node, ast.Call) and isinstance(node.func, ast.Attribute) and node.func.attr in CHANGING:
                    self.assertNotIn(ast.unparse(node.func.value), walked, where(path, node))
                if isinstance(node, ast.Subscript) and isinstance(node.ctx, ast.Store):
                    self.assertNotIn(ast.unparse(node.value), walked, where(path, node))

    def test_what_is_walked_on_the_spot(self):
        for path, tree in trees():
            for node in ast.walk(tree):
                if isinstance(node, (ast.Assign, ast.Return)) and isinstance(node.value, ast.Call):
                    name = node.value.func
                    self.assertFalse(isinstance(name, ast.Name) and name.id in ("zip", "enumerate", "reversed", "range",
                                                                                "set"), where(path, node))


def names_of(node):
    if isinstance(node, ast.Name):
        return [node.id]
    if isinstance(node, ast.Attribute):
        return [node.attr]
    if isinstance(node, (ast.FunctionDef, ast.ClassDef)):
        return [node.name]
    if isinstance(node, ast.arg):
        return [node.arg]
    if isinstance(node, ast.keyword):
        return [node.arg]
    return []


if __name__ == "__main__":
    unittest.main()
