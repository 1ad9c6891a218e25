"""The rules of the language that can be seen row by row (L1, L2, L3, L4, L7, L8, L10, L12, L14 to L18, L25, L27)."""

import ast
import builtins
import os
import re
import unittest
import warnings

ROOT = os.path.dirname(os.path.dirname(os.path.abspath(__file__)))
PACKAGE = os.path.join(ROOT, "tapline")
BUILTINS = """len range enumerate zip min max sum abs sorted reversed int str bool list tuple dict isinstance ord repr
any all divmod set super ValueError""".split()
METHODS = """append clear copy count endswith extend find get index insert isalnum isalpha isdigit islower isspace
isupper items join keys ljust lower lstrip partition pop remove replace reverse rfind rjust rpartition rsplit rstrip
setdefault split splitlines startswith strip update upper values zfill bit_length""".split()
BARRED = """type typing typing_extensions enum Enum IntEnum StrEnum Flag IntFlag Generic Protocol ABC ABCMeta namedtuple
NamedTuple TypedDict TYPE_CHECKING abstractmethod _wall _WallAttr""".split()
NO_NAMES = """register mro elements open input law version_info with_traceback add_note attrgetter breakpoint builtins
compile copyright credits delattr dir eval exec exit gc getattr globals hasattr help id importlib license locals
methodcaller os quit setattr vars sys""".split()
STATEMENTS = (ast.FunctionDef, ast.ClassDef, ast.ImportFrom, ast.Assign, ast.AugAssign, ast.If, ast.While, ast.For,
              ast.Return, ast.Break, ast.Continue, ast.Raise, ast.Expr, ast.Delete, ast.Pass, ast.Try)
NO_NODES = (ast.Set, ast.SetComp, ast.Lambda, ast.Global, ast.Nonlocal, ast.With, ast.Yield,
            ast.YieldFrom, ast.Await, ast.Div, ast.MatMult, ast.NamedExpr, ast.Starred, ast.AnnAssign)


def files():
    return sorted(os.listdir(PACKAGE))


def source(name):
    with open(os.path.join(PACKAGE, name), encoding="ascii", newline="") as handle:
        return handle.read()


def trees():
    return [(name, ast.parse(source(name))) for name in files() if name.endswith(".py")]


def nodes(kind):
    return [(name, node) for name, tree in trees() for node in ast.walk(tree) if isinstance(node, kind)]


def imported(tree):
    return [node.module for node in tree.body if isinstance(node, ast.ImportFrom)]


class Language(unittest.TestCase):
    def test_files(self):
        names = [name for name in files() if name != "__pycache__"]
        self.assertIn("__init__.py", names)
        for name in names:
            self.assertRegex(name, r"^[a-z][a-z0-9_]*\.py$|^__init__\.py$")

    def test_sizes_and_characters(self):
        for name, _ in trees():
            text = source(name)
            self.assertTrue(all(" " <= character <= "~" or character == "\n" for character in text), name)
            rows = text.split("\n")
            self.assertLessEqual(len(rows) - 1, 399, name)
            self.assertLessEqual(max(len(row) for row in rows), 120, name)
        for name, node in nodes(ast.FunctionDef):
            self.assertLessEqual(node.end_lineno - node.lineno + 1, 40, f"{name} {node.name}")

    def test_no_warnings(self):
        with warnings.catch_warnings():
            warnings.simplefilter("error")
            for name, _ in trees():
                compile(source(name), name, "exec")

    def test_imports(self):
        known = {"tapline." + name[:-3]: tree for name, tree in trees()}
        for name, tree in trees():
            for node in tree.body:
                if not isinstance(node, ast.ImportFrom):
                    continue
                self.assertEqual(node.level, 0)
                self.assertIn(node.module, known, name)
                defined = [part.name for part in known[node.module].body
                           if isinstance(part, (ast.FunctionDef, ast.ClassDef))]
                defined += [part.targets[0].id for part in known[node.module].body if isinstance(part, ast.Assign)]
                for alias in node.names:
                    self.assertIsNone(alias.asname)
                    self.assertIn(alias.name, defined, name)
                    self.assertGreater(len(re.findall(rf"\b{alias.name}\b", source(name))), 1, f"{name} {alias.name}")

    def test_no_circles(self):
        known = {"tapline." + name[:-3]: imported(tree) for name, tree in trees()}

        def visit(module, path):
            self.assertNotIn(module, path)
            for other in known[module]:
                visit(other, path + [module])

        for module in known:
            visit(module, [])

    def test_module_level(self):
        for name, tree in trees():
            for k, node in enumerate(tree.body):
                if k == 0 and isinstance(node, ast.Expr):
                    continue
                self.assertIsInstance(node, (ast.ImportFrom, ast.FunctionDef, ast.ClassDef, ast.Assign), name)
                if isinstance(node, ast.Assign):
                    self.assertEqual(len(node.targets), 1)
                    self.assertFalse([part for part in ast.walk(node.value)
                                      if not isinstance(part, (ast.Constant, ast.Tuple, ast.Dict, ast.Load, ast.Name,
                                                               ast.UnaryOp, ast.USub, ast.List))], name)

    def test_statements_and_nodes(self):
        for name, node in nodes(ast.stmt):
            self.assertIsInstance(node, STATEMENTS, f"{name} {node.lineno}")
        for name, node in nodes(NO_NODES):
            self.fail(f"{name} {getattr(node, 'lineno', '')} {type(node).__name__}")
        for name, node in nodes((ast.FunctionDef, ast.ClassDef)):
            self.assertEqual(node.decorator_list, [])

    def test_own_errors_alone_are_caught(self):
        own = [node.name for _, node in nodes(ast.ClassDef)]
        for name, node in nodes(ast.Try):
            self.assertFalse(node.orelse or node.finalbody, name)
            for handler in node.handlers:
                self.assertIsInstance(handler.type, ast.Name, name)
                self.assertIn(handler.type.id, own, name)

    def test_sets_are_sorted_at_once(self):
        of_sets = [node for _, node in nodes(ast.Name) if node.id == "set"]
        sorted_sets = [node.args[0].func for _, node in nodes(ast.Call)
                       if isinstance(node.func, ast.Name) and node.func.id == "sorted" and len(node.args) == 1
                       and not node.keywords and isinstance(node.args[0], ast.Call)]
        self.assertEqual(len([part for part in sorted_sets if isinstance(part, ast.Name) and part.id == "set"]), len(of_sets))

    def test_loops_do_not_change_what_they_go_over(self):
        for name, node in nodes(ast.For):
            gone_over = {ast.unparse(part) for part in ast.walk(node.iter) if isinstance(part, (ast.Name, ast.Attribute))}
            for part in [part for row in node.body for part in ast.walk(row)]:
                changed = []
                if isinstance(part, (ast.Assign, ast.AugAssign, ast.Delete)):
                    changed = getattr(part, "targets", None) or [part.target]
                    changed = [one.value if isinstance(one, ast.Subscript) else one for one in changed]
                elif isinstance(part, ast.Call) and isinstance(part.func, ast.Attribute):
                    if part.func.attr in ("append", "clear", "extend", "insert", "pop", "remove", "reverse", "update"):
                        changed = [part.func.value]
                for one in changed:
                    self.assertNotIn(ast.unparse(one), gone_over - {"self"}, f"{name} {node.lineno}")

    def test_constants(self):
        for name, node in nodes(ast.Constant):
            self.assertIn(type(node.value), (int, str, bool, type(None)), name)
            if isinstance(node.value, str) and "\n" not in node.value:
                self.assertNotIn("%", node.value)
                self.assertNotRegex(node.value, r"\._{1,2}$")

    def test_names(self):
        held = {name: bound(tree) for name, tree in trees()}
        for name, node in nodes(ast.Name):
            self.assertTrue(node.id in held[name] or node.id in BUILTINS, f"{name} {node.lineno} {node.id}")
            if isinstance(node.ctx, ast.Store):
                self.plain(node.id, name)
        for name, node in nodes(ast.arg):
            self.plain(node.arg, name)
        for name, node in nodes((ast.FunctionDef, ast.ClassDef)):
            if node.name != "__init__":
                self.plain(node.name, name)

    def plain(self, word, name):
        self.assertFalse(hasattr(builtins, word), f"{name} {word}")
        self.assertNotIn(word, NO_NAMES, name)
        self.assertTrue(word == "_" or not word.startswith("_"), f"{name} {word}")

    def test_no_name_of_a_class_or_an_import(self):
        for name, tree in trees():
            taken = {alias.name for node in tree.body if isinstance(node, ast.ImportFrom) for alias in node.names}
            taken |= {node.name for node in tree.body if isinstance(node, ast.ClassDef)}
            for node in ast.walk(tree):
                if isinstance(node, ast.arg):
                    self.assertNotIn(node.arg, taken, name)
                if isinstance(node, ast.Name) and isinstance(node.ctx, ast.Store):
                    self.assertNotIn(node.id, taken, name)

    def test_methods_and_attributes(self):
        methods, stored = {}, {}
        for name, node in nodes(ast.ClassDef):
            inner = [part for part in node.body if isinstance(part, ast.FunctionDef)]
            methods[node.name] = [part.name for part in inner]
            self.assertEqual(len(set(methods[node.name])), len(methods[node.name]), node.name)
            stored[node.name] = {part.attr for part in ast.walk(node)
                                 if isinstance(part, ast.Attribute) and isinstance(part.ctx, ast.Store)}
            self.assertFalse(stored[node.name] & set(methods[node.name]), node.name)
        every = {one for names in methods.values() for one in names} | {one for names in stored.values() for one in names}
        for name, node in nodes(ast.Attribute):
            self.assertTrue(node.attr in every or node.attr in METHODS or node.attr == "__init__",
                            f"{name} {node.lineno} {node.attr}")

    def test_barred_words(self):
        for name, _ in trees():
            words = re.findall(r"[A-Za-z_0-9]+", source(name))
            for word in BARRED:
                self.assertNotIn(word, words, name)
            self.assertNotRegex(source(name), "dataclass|overload|contextmanager")


def bound(tree):
    """All names that a file binds somewhere."""
    found = set()
    for node in ast.walk(tree):
        if isinstance(node, (ast.FunctionDef, ast.ClassDef)):
            found.add(node.name)
        elif isinstance(node, ast.arg):
            found.add(node.arg)
        elif isinstance(node, (ast.alias, ast.ExceptHandler)):
            found.add(node.name)
        elif isinstance(node, ast.Name) and isinstance(node.ctx, ast.Store):
            found.add(node.id)
    return found


if __name__ == "__main__":
    unittest.main()
