"""Those rules of LANGUAGE.md that can be read off the source."""

import ast
import builtins
import re
import unittest

import source

BUILTINS = set(
    "len range enumerate zip min max sum abs sorted reversed int str bool bytes list tuple dict set frozenset"
    " isinstance ord repr any all divmod pow getattr hasattr setattr iter next map Exception ValueError TypeError"
    " KeyError IndexError LookupError ZeroDivisionError ArithmeticError OverflowError RuntimeError"
    " NotImplementedError AttributeError StopIteration NotImplemented property staticmethod classmethod super"
    .split())
METHODS = set(
    "append clear copy count endswith extend find get index insert isalnum isalpha isdigit islower isspace isupper"
    " items join keys ljust lower lstrip partition pop remove replace reverse rfind rjust rpartition rsplit rstrip"
    " setdefault split splitlines startswith strip update upper values zfill bit_length title capitalize swapcase"
    " casefold center expandtabs removeprefix removesuffix rindex isascii isdecimal isnumeric istitle isidentifier"
    " isprintable translate".split())
OPERATORS = set(
    "__init__ __eq__ __repr__ __str__ __len__ __call__ __iter__ __lt__ __le__ __gt__ __ge__ __ne__ __add__ __sub__"
    " __mul__ __floordiv__ __mod__ __pow__ __neg__ __contains__ __getitem__ __bool__".split())
STATEMENTS = (
    ast.Assign, ast.If, ast.While, ast.For, ast.Return, ast.Break, ast.Continue, ast.Pass, ast.Raise, ast.Assert,
    ast.Delete, ast.Nonlocal, ast.Match, ast.With, ast.Try, ast.Expr, ast.AugAssign, ast.FunctionDef, ast.ClassDef,
    ast.ImportFrom)
LIBRARY = {"math": {"gcd", "lcm", "isqrt", "comb", "perm", "factorial"}}
ALONE = {"any", "all", "min", "max", "sum", "sorted"}
BARRED = set(
    "register mro elements open input law version_info with_traceback add_note attrgetter breakpoint compile"
    " delattr dir eval exec exit gc globals help id locals os quit type vars".split())
WORDS = re.compile(r"\b(typing|enum|Enum|Generic|Protocol|ABC|namedtuple|NamedTuple|TypedDict)\b|dataclass|\(type\)|Meta")


def nodes(kind):
    """Pairs of a file and a node of this kind, over the whole package."""
    for name, _, tree in source.modules():
        for node in ast.walk(tree):
            if isinstance(node, kind):
                yield name, node


def names_bound_in(function):
    arguments = function.args
    found = [part.arg for part in arguments.posonlyargs + arguments.args + arguments.kwonlyargs]
    return found + [node.id for node in ast.walk(function)
                    if isinstance(node, ast.Name) and isinstance(node.ctx, ast.Store)]


class Language(unittest.TestCase):
    def test_files(self):
        for name in source.file_names():
            self.assertRegex(name, r"\A[a-z_][a-z0-9_]*\.py\Z")

    def test_characters_and_sizes(self):
        for name, text, tree in source.modules():
            self.assertRegex(text, r"\A[\n -~]*\Z", name)
            self.assertIsNone(WORDS.search(text), name)
            lines = text.split("\n")
            self.assertTrue(len(lines) <= 400, name)
            self.assertTrue(max(len(line) for line in lines) <= 120, name)
        for name, node in nodes(ast.FunctionDef):
            self.assertTrue(node.end_lineno - node.lineno < 40, (name, node.name))

    def test_imports(self):
        for name, _, tree in source.modules():
            for node in ast.walk(tree):
                self.assertNotIsInstance(node, ast.Import, name)
                if isinstance(node, ast.ImportFrom):
                    self.assertIn(node, tree.body)
                    self.assertEqual(node.level, 0)
                    self.assertTrue(all(alias.asname is None for alias in node.names))
            for module, imported in source.imports(tree):
                if module in LIBRARY:
                    self.assertIn(imported, LIBRARY[module])
                else:
                    other = source.tree_of(module.split(".")[1] + ".py")
                    self.assertIn(imported, source.defined(other), (name, module))

    def test_imports_are_used(self):
        for name, _, tree in source.modules():
            used = {node.id for node in ast.walk(tree) if isinstance(node, ast.Name)}
            for _, imported in source.imports(tree):
                self.assertIn(imported, used, name)

    def test_statements(self):
        for name, node in nodes(ast.stmt):
            self.assertTrue(isinstance(node, STATEMENTS), (name, node.lineno))
        for name, _, tree in source.modules():
            for node in tree.body:
                kinds = (ast.Expr, ast.ImportFrom, ast.FunctionDef, ast.ClassDef, ast.Assign)
                self.assertIsInstance(node, kinds, name)
                if isinstance(node, ast.Expr):
                    self.assertIsInstance(node.value, ast.Constant)

    def test_no_division_and_no_floats(self):
        for name, node in nodes((ast.BinOp, ast.AugAssign)):
            self.assertNotIsInstance(node.op, (ast.Div, ast.MatMult), name)
            if isinstance(node.op, ast.Pow):
                self.assertIsInstance(node.right, ast.Constant, name)
                self.assertTrue(0 <= node.right.value <= 64)
        for name, node in nodes(ast.Constant):
            self.assertNotIsInstance(node.value, (float, complex), name)
            if isinstance(node.value, str):
                self.assertNotIn("%", node.value, name)
        self.assertEqual(list(nodes((ast.Set, ast.SetComp, ast.Starred, ast.GeneratorExp))), [])

    def test_values_at_module_level(self):
        for name, _, tree in source.modules():
            for statement in tree.body:
                if not isinstance(statement, ast.Assign):
                    continue
                for node in ast.walk(statement):
                    self.assertNotIsInstance(node, ast.Call, name)
                    if isinstance(node, ast.BinOp) and isinstance(node.op, (ast.LShift, ast.RShift)):
                        self.assertIsInstance(node.right, ast.Constant, name)
                        self.assertTrue(0 <= node.right.value <= 3000, (name, node.lineno))
                    if isinstance(node, ast.Constant) and isinstance(node.value, int):
                        self.assertTrue(abs(node.value) < 10 ** 900, (name, node.lineno))

    def test_builtins(self):
        for name, node in nodes(ast.Name):
            if hasattr(builtins, node.id) and isinstance(node.ctx, ast.Load):
                self.assertIn(node.id, BUILTINS, name)

    def test_names(self):
        for name, _, tree in source.modules():
            outside = {imported for _, imported in source.imports(tree)}
            outside.update(node.name for node in tree.body if isinstance(node, ast.ClassDef))
            for node in ast.walk(tree):
                if isinstance(node, ast.FunctionDef):
                    for bound in names_bound_in(node):
                        self.assertNotIn(bound, outside, (name, node.name))
                        self.assertFalse(hasattr(builtins, bound) and bound != "_", (name, bound))
                        self.assertNotIn(bound, BARRED)
                if isinstance(node, (ast.FunctionDef, ast.ClassDef)):
                    self.assertNotIn(node.name, BARRED)
                    self.assertFalse(hasattr(builtins, node.name) and node.name[0] != "_", (name, node.name))

    def test_methods(self):
        own = {node.name for _, node in nodes(ast.FunctionDef)}
        # An attribute may be an object that is called.
        own.update(node.attr for _, node in nodes(ast.Attribute) if isinstance(node.ctx, ast.Store))
        for name, node in nodes(ast.Call):
            if isinstance(node.func, ast.Attribute) and node.func.attr != "__init__":
                self.assertIn(node.func.attr, own | METHODS, (name, node.lineno))
            if isinstance(node.func, ast.Name) and node.func.id in ALONE:
                self.assertNotIsInstance(node.args[0], ast.GeneratorExp)

    def test_classes(self):
        for name, node in nodes(ast.ClassDef):
            self.assertEqual(node.decorator_list, [])
            found = [part.name for part in node.body if isinstance(part, ast.FunctionDef)]
            self.assertEqual(len(found), len(set(found)), (name, node.name))
            for method in found:
                if method.startswith("__"):
                    self.assertIn(method, OPERATORS, (name, node.name))
            if "__getitem__" in found:
                self.assertIn("__iter__", found)

    def test_no_name_is_a_method_and_an_attribute(self):
        stored = {node.attr for _, node in nodes(ast.Attribute) if isinstance(node.ctx, ast.Store)}
        read = {node.attr for _, node in nodes(ast.Attribute) if isinstance(node.ctx, ast.Load)}
        found = {node.name for _, node in nodes(ast.FunctionDef)}
        self.assertEqual(stored & found, set())
        self.assertEqual(read - stored - found - METHODS - {"__init__"}, set())

    def test_handlers(self):
        own = {node.name for _, node in nodes(ast.ClassDef)}
        for name, node in nodes(ast.FunctionDef):
            caught = [part for part in ast.walk(node) if isinstance(part, ast.ExceptHandler)]
            bound = [part.name for part in caught if part.name is not None]
            self.assertEqual(len(bound), len(set(bound)), (name, node.name))
            self.assertEqual(set(bound) & set(names_bound_in(node)), set())
            for part in caught:
                kinds = part.type.elts if isinstance(part.type, ast.Tuple) else [part.type]
                for kind in kinds:
                    self.assertIn(kind.id, own | {"KeyError", "ZeroDivisionError"}, (name, node.name))
        for name, node in nodes(ast.Raise):
            self.assertTrue(node.exc is None or node.exc.func.id in own, (name, node.lineno))

    def test_decorators(self):
        for name, node in nodes(ast.FunctionDef):
            self.assertTrue({part.id for part in node.decorator_list} <= {"property", "classmethod"}, (name, node.name))

    def test_generators(self):
        makers = [node.name for _, node in nodes(ast.FunctionDef) if any(isinstance(part, ast.Yield) for part in ast.walk(node))]
        self.assertEqual(sorted(makers), ["all_members", "terms"])
        self.assertEqual([node.name for _, node in nodes(ast.FunctionDef) if node.name in makers].count("terms"), 1)

    def test_returns_of_double_underscore_methods(self):
        for name, node in nodes(ast.FunctionDef):
            if node.name in ("__len__", "__eq__", "__iter__"):
                body = [part for part in node.body if not isinstance(part, ast.Expr)]
                self.assertEqual(len(body), 1, name)
                self.assertIsInstance(body[0], ast.Return)


if __name__ == "__main__":
    unittest.main()
