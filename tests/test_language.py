"""The package keeps to ../shared/LANGUAGE.md, as far as its text shows it."""

import ast
import builtins
import pathlib
import re
import unittest

PACKAGE = pathlib.Path(__file__).resolve().parent.parent / "queuemill"

INTERFACE = {
    "errors.py": ("MillError", "BadProgram", "BadDeed", "BadFuel", "BadStages", "BadPaper", "BadText"),
    "programs.py": ("layers",),
    "plain.py": ("run",),
    "stages.py": ("stages", "turns", "paper", "bound"),
    "rows.py": ("rows_by", "pile_rows", "queue_rows"),
    "machines.py": ("run_pile", "run_queue", "held"),
    "notes.py": ("written", "read"),
}

LIBRARY = {
    "heapq": {"heappush", "heappop", "heapify", "heapreplace", "heappushpop"},
    "math": {"gcd", "lcm", "isqrt", "comb", "perm", "factorial"},
    "itertools": {"product", "combinations", "permutations", "chain", "accumulate", "pairwise", "islice",
                  "zip_longest"},
    "collections": {"defaultdict"},
}

BUILTINS = set("""
    len range enumerate zip min max sum abs sorted reversed int str bool list tuple dict set frozenset isinstance
    ord repr any all divmod pow iter next map super Exception ValueError TypeError KeyError IndexError LookupError
    ZeroDivisionError ArithmeticError OverflowError RuntimeError NotImplementedError AttributeError StopIteration
    NotImplemented
""".split())

METHODS = set("""
    append clear copy count endswith extend find get index insert isalnum isalpha isdigit islower isspace isupper
    items join keys ljust lower lstrip partition pop remove replace reverse rfind rjust rpartition rsplit rstrip
    setdefault split splitlines startswith strip update upper values zfill bit_length removeprefix removesuffix isascii
    add discard sort __init__
""".split())

DOUBLE = set("__init__ __eq__ __repr__ __str__ __len__ __enter__ __exit__ __call__ __iter__".split())

STATEMENTS = (
    ast.FunctionDef, ast.ClassDef, ast.Return, ast.Delete, ast.Assign, ast.AugAssign, ast.AnnAssign, ast.For,
    ast.While, ast.If, ast.With, ast.Match, ast.Raise, ast.Try, ast.Assert, ast.ImportFrom, ast.Nonlocal, ast.Expr,
    ast.Pass, ast.Break, ast.Continue)

BARRED = set("""
    register mro elements open input law version_info with_traceback add_note attrgetter breakpoint builtins compile
    copyright credits delattr dir eval exec exit gc globals help id importlib license locals methodcaller os quit
    vars sys type typing typing_extensions enum Enum IntEnum StrEnum Flag IntFlag Generic Protocol ABC ABCMeta
    namedtuple NamedTuple TypedDict TYPE_CHECKING abstractmethod dataclass overload contextmanager global async
""".split())


def files():
    return sorted(PACKAGE.glob("*.py"))


def tree_of(path):
    return ast.parse(path.read_text("utf-8"))


def nodes(kind):
    """(file:line, node) for each node of a kind in the package."""
    for path in files():
        for node in ast.walk(tree_of(path)):
            if isinstance(node, kind):
                yield f"{path.name}:{getattr(node, 'lineno', 0)}", node


def own_names():
    return {node.name for _, node in nodes((ast.FunctionDef, ast.ClassDef))}


def bound_names(node):
    """Names that a node of the tree binds."""
    if isinstance(node, ast.Name) and not isinstance(node.ctx, ast.Load):
        return [node.id]
    if isinstance(node, ast.arg):
        return [node.arg]
    if isinstance(node, (ast.FunctionDef, ast.ClassDef)):
        return [node.name]
    if isinstance(node, (ast.MatchAs, ast.MatchStar, ast.ExceptHandler)) and node.name:
        return [node.name]
    return []


class Files(unittest.TestCase):

    def test_only_python_files_stand_in_the_folder(self):
        for path in PACKAGE.iterdir():
            if path.name != "__pycache__":
                self.assertRegex(path.name, r"^[a-z0-9_]+\.py$")
        self.assertTrue((PACKAGE / "__init__.py").is_file())

    def test_size_and_signs(self):
        for path in files():
            text = path.read_text("utf-8")
            self.assertLessEqual(len(text.splitlines()), 399, path.name)
            for number, line in enumerate(text.split("\n"), 1):
                where = f"{path.name}:{number}"
                self.assertLessEqual(len(line), 120, where)
                self.assertTrue(all(" " <= sign <= "~" for sign in line), where)

    def test_functions_are_short(self):
        for where, node in nodes(ast.FunctionDef):
            self.assertLessEqual(node.end_lineno - node.lineno + 1, 40, where)

    def test_interface_is_defined_where_it_is_listed(self):
        for name, wanted in INTERFACE.items():
            here = [node.name for node in tree_of(PACKAGE / name).body
                    if isinstance(node, (ast.FunctionDef, ast.ClassDef))]
            for word in wanted:
                self.assertIn(word, here, name)


class Imports(unittest.TestCase):

    def test_form(self):
        for where, node in nodes(ast.Import):
            self.fail(f"{where}: import without from")
        for where, node in nodes(ast.ImportFrom):
            self.assertEqual(node.level, 0, where)
            for alias in node.names:
                if node.module in LIBRARY:
                    self.assertIn(alias.name, LIBRARY[node.module], where)
                    self.assertIsNone(alias.asname, where)
                else:
                    self.assertRegex(node.module, r"^queuemill\.[a-z]+$", where)

    def test_names_come_from_the_file_that_defines_them(self):
        for where, node in nodes(ast.ImportFrom):
            if node.module not in LIBRARY:
                path = PACKAGE / (node.module.split(".")[1] + ".py")
                defined = [name for top in tree_of(path).body for name in
                           (bound_names(top) or [name for target in getattr(top, "targets", ())
                                                 for name in bound_names(target)])]
                for alias in node.names:
                    self.assertIn(alias.name, defined, where)

    def test_no_two_files_import_from_each_other(self):
        wants = {path.stem: {node.module.split(".")[1] for node in tree_of(path).body
                             if isinstance(node, ast.ImportFrom) and node.module.startswith("queuemill.")}
                 for path in files()}
        done = set()
        while len(done) < len(wants):
            free = {stem for stem in wants if stem not in done and wants[stem] <= done}
            self.assertTrue(free, f"a circle among {sorted(set(wants) - done)}")
            done |= free


class Statements(unittest.TestCase):

    def test_module_level(self):
        for path in files():
            for top in tree_of(path).body:
                where = f"{path.name}:{top.lineno}"
                if isinstance(top, ast.Expr):
                    self.assertIsInstance(top.value, ast.Constant, where)
                elif isinstance(top, ast.Assign):
                    self.assertEqual(len(top.targets), 1, where)
                    self.assertIsInstance(top.targets[0], ast.Name, where)
                    ast.literal_eval(top.value)
                else:
                    self.assertIsInstance(top, (ast.FunctionDef, ast.ClassDef, ast.ImportFrom), where)

    def test_names_are_bound_once_at_module_level(self):
        for path in files():
            found = []
            for top in tree_of(path).body:
                found.extend(bound_names(top))
                found.extend(alias.name for alias in getattr(top, "names", ()))
                found.extend(name for target in getattr(top, "targets", ()) for name in bound_names(target))
            self.assertEqual(len(found), len(set(found)), path.name)
            inner = [name for top in tree_of(path).body if isinstance(top, (ast.FunctionDef, ast.ClassDef))
                     for node in ast.walk(top) if isinstance(node, (ast.Name, ast.arg)) for name in bound_names(node)]
            self.assertFalse(set(inner) & set(found), path.name)

    def test_kinds_of_statements(self):
        for where, node in nodes(ast.stmt):
            self.assertIsInstance(node, STATEMENTS, where)
        for where, node in nodes((ast.FunctionDef, ast.ClassDef)):
            self.assertFalse([one for one in node.decorator_list
                              if ast.unparse(one) not in ("property", "staticmethod", "classmethod")], where)

    def test_handlers_name_own_errors(self):
        for where, node in nodes(ast.ExceptHandler):
            self.assertIsInstance(node.type, ast.Name, where)
            self.assertIn(node.type.id, own_names() | {"KeyError", "ZeroDivisionError"}, where)

    def test_errors_are_created_on_the_spot(self):
        for where, node in nodes(ast.Raise):
            self.assertIsInstance(node.exc, ast.Call, where)
            self.assertIn(node.exc.func.id, own_names(), where)

    def test_no_set_is_iterated(self):
        for where, node in nodes((ast.For, ast.comprehension)):
            self.assertNotIsInstance(node.iter, (ast.Set, ast.SetComp), where)
            self.assertFalse(ast.unparse(node.iter).startswith("set("), where)


class Words(unittest.TestCase):

    def test_names(self):
        for where, node in nodes(ast.AST):
            for name in bound_names(node):
                self.assertNotIn(name, dir(builtins), where)
                self.assertNotIn(name, BARRED, where)
                if name not in DOUBLE:
                    self.assertRegex(name, r"^(_|_?[A-Za-z][A-Za-z0-9_]*)$", where)

    def test_builtins(self):
        for where, node in nodes(ast.Name):
            if node.id in dir(builtins):
                self.assertIn(node.id, BUILTINS, where)

    def test_methods(self):
        for where, node in nodes(ast.Call):
            if isinstance(node.func, ast.Attribute):
                self.assertIn(node.func.attr, METHODS | own_names(), where)

    def test_attributes(self):
        stored = {node.attr for _, node in nodes(ast.Attribute) if isinstance(node.ctx, ast.Store)}
        for where, node in nodes(ast.Attribute):
            self.assertNotIn(node.attr, BARRED, where)
            self.assertIn(node.attr, stored | METHODS | own_names(), where)

    def test_barred_words_stand_in_no_text(self):
        for where, node in nodes(ast.Constant):
            if isinstance(node.value, str):
                self.assertNotIn("%", node.value, where)
                self.assertFalse(re.search(r"__\w*__", node.value), where)

    def test_no_float_and_no_slash(self):
        for where, node in nodes(ast.Constant):
            self.assertNotIsInstance(node.value, (float, complex, bytes), where)
        for where, node in nodes((ast.Div, ast.MatMult, ast.Await, ast.AsyncFor, ast.Global)):
            self.fail(f"{where}: {ast.unparse(node)}")

    def test_is_stands_beside_none_true_and_false(self):
        for where, node in nodes(ast.Compare):
            for sign, other in zip(node.ops, node.comparators):
                if isinstance(sign, (ast.Is, ast.IsNot)):
                    self.assertIsInstance(other, ast.Constant, where)

    def test_tables_at_module_level_hold_no_list_and_no_dict(self):
        for path in files():
            for top in tree_of(path).body:
                if isinstance(top, ast.Assign):
                    value = ast.literal_eval(top.value)
                    inner = list(value.values()) if isinstance(value, dict) else value
                    if isinstance(inner, (list, tuple)):
                        self.assertFalse([one for one in inner if isinstance(one, (list, dict))], path.name)


if __name__ == "__main__":
    unittest.main()
