"""The form of the package's files, as far as a program can look at it (L1 to L28)."""

import ast
import builtins
import pathlib
import re
import unittest

PACKAGE = pathlib.Path(__file__).resolve().parent.parent / "twicecalls"
BUILTINS = set("""len range enumerate zip min max sum abs sorted reversed int str bool list tuple dict set frozenset
    isinstance ord repr any all divmod Exception ValueError TypeError KeyError IndexError LookupError
    ZeroDivisionError ArithmeticError OverflowError RuntimeError NotImplementedError AttributeError""".split())
METHODS = set("""append clear copy count endswith extend find get index insert isalnum isalpha isdigit islower isspace
    isupper items join keys ljust lower lstrip partition pop remove replace reverse rfind rjust rpartition rsplit
    rstrip setdefault split splitlines startswith strip update upper values zfill bit_length title capitalize
    swapcase casefold center expandtabs removeprefix removesuffix rindex isascii isdecimal isnumeric istitle
    isidentifier isprintable add discard""".split())
SPECIAL = {"__init__": None, "__len__": r"return len\(", "__str__": r"return str\(", "__eq__": r"return isinstance\("}
BARRED_NAMES = set("""register mro elements open input law version_info with_traceback add_note attrgetter breakpoint
    builtins compile copyright credits delattr dir eval exec exit gc globals help id importlib license locals
    methodcaller os quit super type vars sys""".split())
BARRED_WORDS = set("""typing typing_extensions enum Enum IntEnum StrEnum Flag IntFlag Generic Protocol ABC ABCMeta
    namedtuple NamedTuple TypedDict TYPE_CHECKING abstractmethod""".split())
BARRED_NODES = (ast.AsyncFunctionDef, ast.Await, ast.Global, ast.Div)


def trees():
    for path in sorted(PACKAGE.glob("*.py")):
        yield path, ast.parse(path.read_text())


def bound_names(tree):
    for node in ast.walk(tree):
        if isinstance(node, (ast.FunctionDef, ast.ClassDef)):
            yield node.name
        elif isinstance(node, ast.arg):
            yield node.arg
        elif isinstance(node, ast.alias):
            yield node.asname or node.name
        elif isinstance(node, ast.Name) and isinstance(node.ctx, ast.Store):
            yield node.id


class TestForm(unittest.TestCase):
    def test_files(self):
        for path in PACKAGE.iterdir():
            if path.name != "__pycache__":
                self.assertRegex(path.name, r"^([a-z][a-z0-9_]*|__init__|__main__)\.py$")

    def test_sizes_and_signs(self):
        for path, tree in trees():
            text = path.read_text()
            self.assertRegex(text, r"^[ -~\n]*$", path.name)
            rows = text.split("\n")
            self.assertLessEqual(len(rows), 399, path.name)
            self.assertLessEqual(max(map(len, rows)), 120, path.name)
            for node in ast.walk(tree):
                if isinstance(node, ast.FunctionDef):
                    self.assertLessEqual(node.end_lineno - node.lineno + 1, 40, node.name)

    def test_imports(self):
        ahead = {}
        for path, tree in trees():
            ahead[path.stem] = set()
            for node in ast.walk(tree):
                self.assertNotIsInstance(node, ast.Import, path.name)
                if isinstance(node, ast.ImportFrom) and node.module == "math":
                    self.assertEqual([alias.name for alias in node.names], ["gcd"])
                elif isinstance(node, ast.ImportFrom):
                    ahead[path.stem].add(self.imported_file(node))
        self.check_no_ring(ahead)

    def imported_file(self, node):
        package, stem = node.module.split(".")
        self.assertEqual((package, node.level), ("twicecalls", 0))
        own = ast.parse((PACKAGE / f"{stem}.py").read_text()).body
        defined = {n.name for n in own if isinstance(n, (ast.FunctionDef, ast.ClassDef))}
        defined |= {n.targets[0].id for n in own if isinstance(n, ast.Assign)}
        self.assertLessEqual({alias.name for alias in node.names}, defined)
        return stem

    def check_no_ring(self, ahead):
        while ahead:
            free = [stem for stem in ahead if not ahead[stem] & set(ahead)]
            self.assertTrue(free, ahead)
            for stem in free:
                del ahead[stem]

    def test_module_level(self):
        for path, tree in trees():
            for node in tree.body:
                is_docstring = isinstance(node, ast.Expr) and isinstance(node.value, ast.Constant)
                is_plain = isinstance(node, (ast.ImportFrom, ast.FunctionDef, ast.ClassDef)) or (
                    isinstance(node, ast.Assign) and len(node.targets) == 1 and isinstance(node.targets[0], ast.Name))
                self.assertTrue(is_docstring or is_plain, f"{path.name}:{node.lineno}")

    def test_statements(self):
        for path, tree in trees():
            for node in ast.walk(tree):
                where = f"{path.name}:{getattr(node, 'lineno', '')}"
                self.assertNotIsInstance(node, BARRED_NODES, where)
                if isinstance(node, (ast.FunctionDef, ast.ClassDef)):
                    self.assertEqual(node.decorator_list, [], where)
                if isinstance(node, ast.Subscript):
                    self.assertFalse(any(isinstance(part, ast.Starred) for part in ast.walk(node.slice)), where)
                if isinstance(node, ast.GeneratorExp):
                    self.fail(f"{where}: a list is wanted where a class may have __eq__")
                if isinstance(node, ast.Constant) and isinstance(node.value, str):
                    self.assertNotIn("%", node.value, where)
                if isinstance(node, ast.Constant):
                    self.assertNotIsInstance(node.value, float, where)

    def test_names(self):
        for path, tree in trees():
            bound = set(bound_names(tree))
            self.assertEqual(bound & (set(dir(builtins)) | BARRED_NAMES), set(), path.name)
            for name in bound - set(SPECIAL):
                self.assertRegex(name, r"^_?[A-Za-z][A-Za-z0-9_]*$|^_$", path.name)
            for node in ast.walk(tree):
                if isinstance(node, ast.Name) and isinstance(node.ctx, ast.Load) and node.id not in bound:
                    self.assertIn(node.id, BUILTINS, f"{path.name}:{node.lineno}")

    def test_methods_that_are_called(self):
        own = {node.name for _, tree in trees() for kind in tree.body if isinstance(kind, ast.ClassDef)
               for node in kind.body if isinstance(node, ast.FunctionDef)} - set(SPECIAL)
        self.assertEqual(own & METHODS, set())
        for path, tree in trees():
            for node in ast.walk(tree):
                if isinstance(node, ast.Call) and isinstance(node.func, ast.Attribute):
                    self.assertIn(node.func.attr, METHODS | own, f"{path.name}:{node.lineno}")
                if isinstance(node, ast.Call) and isinstance(node.func, ast.Attribute):
                    self.assertEqual(node.keywords, [], f"{path.name}:{node.lineno}")

    def test_special_methods_are_one_return(self):
        for path, tree in trees():
            for node in ast.walk(tree):
                if isinstance(node, ast.FunctionDef) and SPECIAL.get(node.name):
                    self.assertEqual(len(node.body), 1, path.name)
                    self.assertRegex(ast.unparse(node.body[0]), SPECIAL[node.name])

    def test_no_name_is_a_method_and_an_attribute(self):
        for path, tree in trees():
            for kind in [node for node in tree.body if isinstance(node, ast.ClassDef)]:
                methods = {node.name for node in kind.body if isinstance(node, ast.FunctionDef)}
                kept = {node.attr for node in ast.walk(kind) if isinstance(node, ast.Attribute)
                        and isinstance(node.ctx, ast.Store)}
                self.assertEqual(methods & kept, set(), path.name)

    def test_stars_in_calls_stand_ahead_of_names(self):
        for path, tree in trees():
            for node in ast.walk(tree):
                for part in node.args if isinstance(node, ast.Call) else ():
                    if isinstance(part, ast.Starred):
                        self.assertIsInstance(part.value, (ast.Name, ast.Attribute), f"{path.name}:{node.lineno}")

    def test_only_own_errors_are_caught(self):
        for path, tree in trees():
            for node in ast.walk(tree):
                if isinstance(node, ast.ExceptHandler):
                    self.assertRegex(ast.unparse(node.type), r"^No[A-Z]\w+$", f"{path.name}:{node.lineno}")

    def test_no_local_has_the_name_of_an_import_or_class(self):
        for path, tree in trees():
            above = {a.name for n in tree.body if isinstance(n, ast.ImportFrom) for a in n.names}
            above |= {n.name for n in tree.body if isinstance(n, (ast.ClassDef, ast.FunctionDef))}
            for function in [n for n in ast.walk(tree) if isinstance(n, ast.FunctionDef)]:
                inside = set(bound_names(function)) - {function.name}
                self.assertEqual(inside & above, set(), f"{path.name}:{function.name}")

    def test_words(self):
        for path, _ in trees():
            text = path.read_text()
            self.assertEqual(set(re.findall(r"\w+", text)) & BARRED_WORDS, set(), path.name)
            for word in ("dataclass", "overload", "contextmanager", "_wall", "_WallAttr", "\t"):
                self.assertNotIn(word, text, path.name)


if __name__ == "__main__":
    unittest.main()
