"""What a script can see of ../shared/LANGUAGE.md in the files of the package."""

import ast
import builtins
import io
import keyword
import pathlib
import re
import sys
import tokenize
import unittest

import touchrights

FOLDER = pathlib.Path(touchrights.__file__).parent
PACKAGE = "touchrights"
FILES = sorted(FOLDER.rglob("*.py"))
TEXTS = {path: path.read_text(encoding="utf-8") for path in FILES}
TREES = {path: ast.parse(text) for path, text in TEXTS.items()}

LIBRARY = {
    "heapq": {"heappush", "heappop", "heapify", "heapreplace", "heappushpop"},
    "math": {"gcd", "lcm", "isqrt", "comb", "perm", "factorial"},
    "itertools": {"product", "combinations", "permutations"},
}
BUILTINS = set("""
len range enumerate zip min max sum abs sorted reversed int str bool bytes list tuple dict set frozenset isinstance ord
repr any all divmod map iter next Exception ValueError TypeError KeyError IndexError LookupError ZeroDivisionError
ArithmeticError OverflowError RuntimeError NotImplementedError AttributeError StopIteration NotImplemented print super
property staticmethod classmethod object float
""".split())
METHODS = set("""
append clear copy count endswith extend find get index insert isalnum isalpha isdigit islower isspace isupper items join
keys ljust lower lstrip partition pop remove replace reverse rfind rjust rpartition rsplit rstrip setdefault split
splitlines startswith strip update upper values zfill bit_length title capitalize swapcase casefold center expandtabs
removeprefix removesuffix rindex isascii isdecimal isnumeric istitle isidentifier isprintable translate maketrans sort
add discard encode decode hex fromhex to_bytes from_bytes
""".split())
DOUBLE = set("""
__init__ __eq__ __repr__ __str__ __len__ __enter__ __exit__ __call__ __iter__ __lt__ __le__ __gt__ __ge__ __ne__ __neg__
__pos__ __invert__ __abs__ __bool__ __contains__ __getitem__ __setitem__ __slots__ __all__ __version__ __name__ __class__
""".split()) | {
    f"__{sign}{word}__" for sign in ("", "r", "i")
    for word in ("add", "sub", "mul", "floordiv", "mod", "pow", "and", "or", "xor", "lshift", "rshift")
}
BARRED_NAMES = set("""
attrgetter breakpoint builtins compile copyright credits delattr dir eval exec exit gc getattr globals hasattr help id
importlib license locals methodcaller os quit setattr type vars
""".split())
BARRED_EVERYWHERE = {"register", "mro", "elements", "open", "input", "law", "version_info", "with_traceback", "add_note"}
BARRED_WORDS = set("""
typing typing_extensions enum Enum IntEnum StrEnum Flag IntFlag Generic Protocol ABC ABCMeta namedtuple NamedTuple
TypedDict TYPE_CHECKING abstractmethod
""".split())


def names_bound(tree):
    """All names that are bound somewhere in the tree, but for attributes."""
    found = set()
    for node in ast.walk(tree):
        if isinstance(node, (ast.FunctionDef, ast.ClassDef)):
            found.add(node.name)
        elif isinstance(node, ast.Name) and isinstance(node.ctx, (ast.Store, ast.Del)):
            found.add(node.id)
        elif isinstance(node, ast.arg):
            found.add(node.arg)
        elif isinstance(node, ast.alias):
            found.add(node.asname or node.name)
        elif isinstance(node, ast.ExceptHandler) and node.name:
            found.add(node.name)
        elif isinstance(node, (ast.MatchAs, ast.MatchStar)) and node.name:
            found.add(node.name)
    return found


def methods_of_package():
    return {
        part.name for tree in TREES.values() for node in ast.walk(tree) if isinstance(node, ast.ClassDef)
        for part in node.body if isinstance(part, ast.FunctionDef)
    }


def attributes_of_package():
    return {
        node.attr for tree in TREES.values() for node in ast.walk(tree)
        if isinstance(node, ast.Attribute) and isinstance(node.ctx, ast.Store)
    }


def module_name(path):
    parts = path.relative_to(FOLDER.parent).with_suffix("").parts
    return ".".join(parts[:-1] if parts[-1] == "__init__" else parts)


def top_names(tree):
    """The names bound at module level, one by one, with repetitions."""
    for node in tree.body:
        if isinstance(node, (ast.FunctionDef, ast.ClassDef)):
            yield node.name
        elif isinstance(node, (ast.Import, ast.ImportFrom)):
            yield from (alias.asname or alias.name for alias in node.names)
        elif isinstance(node, ast.Assign):
            yield from (target.id for target in node.targets if isinstance(target, ast.Name))
        elif isinstance(node, ast.AnnAssign) and isinstance(node.target, ast.Name):
            yield node.target.id


def docstrings(tree):
    """The nodes of the docstrings."""
    for node in ast.walk(tree):
        if isinstance(node, (ast.Module, ast.ClassDef, ast.FunctionDef)) and node.body:
            first = node.body[0]
            if isinstance(first, ast.Expr) and isinstance(first.value, ast.Constant):
                yield first.value


def without_comments(text):
    """The words of a file, comments left out."""
    tokens = tokenize.generate_tokens(io.StringIO(text).readline)
    return [token for token in tokens if token.type != tokenize.COMMENT]


class Files(unittest.TestCase):
    def test_there_is_one_package_of_plain_files(self):
        self.assertEqual(FOLDER.name, PACKAGE)
        self.assertLessEqual(len(FILES), 100)
        for path in FOLDER.rglob("*"):
            if "__pycache__" in path.parts:
                continue
            if path.is_dir():
                self.assertTrue((path / "__init__.py").exists(), path)
            else:
                self.assertEqual(path.suffix, ".py", path)
                self.assertRegex(path.stem, r"\A(__init__|__main__|[a-z][a-z0-9_]*)\Z")
        self.assertTrue((FOLDER / "__init__.py").exists())
        self.assertNotIn(PACKAGE, sys.stdlib_module_names)

    def test_names_of_files(self):
        for path in FILES:
            stem = path.stem
            self.assertNotIn(stem, set(dir(builtins)) | BARRED_NAMES | BARRED_EVERYWHERE | BARRED_WORDS, path)
            self.assertNotIn(stem, ("test", "tests", "testing", "site", "conftest", "sitecustomize", "usercustomize"))
            self.assertFalse(stem.startswith(("test_", "law_")), path)
            self.assertFalse(keyword.iskeyword(stem), path)
            self.assertFalse((path.parent / stem).is_dir(), path)

    def test_characters(self):
        for path, text in TEXTS.items():
            self.assertEqual(path.read_bytes(), text.encode("ascii"), path)
            self.assertLessEqual({sign for sign in text if not " " <= sign <= "~"}, {"\n"}, path)

    def test_sizes(self):
        for path, text in TEXTS.items():
            lines = text.split("\n")
            self.assertLessEqual(len(text.splitlines()), 399, path)
            self.assertLessEqual(max(len(line) for line in lines), 120, path)
            for node in ast.walk(TREES[path]):
                if isinstance(node, ast.FunctionDef):
                    first = min([node.lineno] + [part.lineno for part in node.decorator_list])
                    self.assertLessEqual(node.end_lineno - first + 1, 40, (path, node.name))


class Imports(unittest.TestCase):
    def test_form(self):
        for path, tree in TREES.items():
            ahead = True
            for place, node in enumerate(tree.body):
                if isinstance(node, (ast.Import, ast.ImportFrom)):
                    self.assertTrue(ahead, (path, "an import behind other statements"))
                elif not (place == 0 and isinstance(node, ast.Expr)):
                    ahead = False
            top = [node for node in tree.body if isinstance(node, (ast.Import, ast.ImportFrom))]
            everywhere = [node for node in ast.walk(tree) if isinstance(node, (ast.Import, ast.ImportFrom))]
            self.assertEqual(len(top), len(everywhere), path)
            for node in everywhere:
                self.check_import(path, node)

    def check_import(self, path, node):
        if isinstance(node, ast.Import):
            self.assertEqual((path.name, [alias.name for alias in node.names]), ("__main__.py", ["sys"]))
            return
        self.assertEqual(node.level, 0, path)
        names = [alias.name for alias in node.names]
        self.assertNotIn("*", names, path)
        if node.module == "__future__":
            self.assertEqual(names, ["annotations"], path)
        elif node.module in LIBRARY:
            self.assertLessEqual(set(names), LIBRARY[node.module], path)
            self.assertEqual({alias.asname for alias in node.names}, {None}, path)
        else:
            self.assertEqual(node.module.split(".")[0], PACKAGE, path)
            self.check_origin(path, node.module, names)

    def check_origin(self, path, module, names):
        """Names are imported from the very file that defines them."""
        homes = [other for other in FILES if module_name(other) == module]
        self.assertEqual(len(homes), 1, (path, module))
        self.assertNotEqual(homes[0].name, "__main__.py", path)
        tree = TREES[homes[0]]
        taken = {a.asname or a.name for n in tree.body if isinstance(n, ast.ImportFrom) for a in n.names}
        for name in names:
            self.assertIn(name, list(top_names(tree)), (path, module))
            self.assertNotIn(name, taken, (path, module))

    def test_no_two_files_import_from_each_other(self):
        near = {}
        for path, tree in TREES.items():
            goals = {node.module for node in tree.body if isinstance(node, ast.ImportFrom)}
            goals = {goal for goal in goals if goal.split(".")[0] == PACKAGE}
            above = {".".join(goal.split(".")[:k]) for goal in goals for k in range(1, goal.count(".") + 1)}
            near[module_name(path)] = (goals | above) - ({PACKAGE} if path.name == "__init__.py" else set())
        for start in near:
            found, waiting = set(), list(near[start])
            while waiting:
                goal = waiting.pop()
                if goal not in found:
                    found.add(goal)
                    waiting += near.get(goal, ())
            self.assertNotIn(start, found)


class Names(unittest.TestCase):
    def test_builtins(self):
        for path, tree in TREES.items():
            bound = names_bound(tree)
            for node in ast.walk(tree):
                if isinstance(node, ast.Name) and node.id not in bound:
                    self.assertIn(node.id, BUILTINS | {"__name__"}, (path, node.lineno))
            plain = {name for name in bound if name in dir(builtins)}
            methods = {part.name for node in ast.walk(tree) if isinstance(node, ast.ClassDef) for part in node.body
                       if isinstance(part, ast.FunctionDef)}
            self.assertLessEqual(plain, methods, path)

    def test_names_are_plain(self):
        for path, tree in TREES.items():
            attributes = {node.attr for node in ast.walk(tree) if isinstance(node, ast.Attribute)}
            for name in names_bound(tree) | attributes:
                self.assertNotIn(name, BARRED_EVERYWHERE, path)
                if name.startswith("__"):
                    self.assertIn(name, DOUBLE, path)
                else:
                    self.assertRegex(name, r"\A(_|_?[A-Za-z][A-Za-z0-9_]*)\Z", path)
                self.assertNotRegex(name, r"\A_(wall|pe_|dcw_|enum_|cm_|twin_re_|lay_|law_|stub_|sre|WallAttr)", path)
                self.assertNotRegex(
                    name, r"\A(_cold|_tuplegetter|_outside|_record|_written_out|_member_names)[0-9_]*\Z", path)
            for name in names_bound(tree):
                self.assertNotIn(name, BARRED_NAMES, path)

    def test_underscore_is_never_read(self):
        for path, tree in TREES.items():
            for node in ast.walk(tree):
                if isinstance(node, ast.Name) and node.id == "_":
                    self.assertIsInstance(node.ctx, ast.Store, (path, node.lineno))

    def test_each_name_is_bound_once_at_module_level(self):
        for path, tree in TREES.items():
            names = list(top_names(tree))
            self.assertEqual(len(names), len(set(names)), path)

    def test_no_local_name_is_that_of_an_import_or_a_class(self):
        for path, tree in TREES.items():
            taken = {a.asname or a.name for n in tree.body if isinstance(n, ast.ImportFrom) for a in n.names}
            taken |= {node.name for node in tree.body if isinstance(node, ast.ClassDef)}
            functions = [node for node in ast.walk(tree) if isinstance(node, (ast.FunctionDef, ast.Lambda))]
            for node in functions:
                local = names_bound(node) - {getattr(node, "name", None)}
                self.assertFalse(local & taken, (path, node.lineno))

    def test_words_that_stand_nowhere(self):
        for path, text in TEXTS.items():
            self.assertNotRegex(text, r"\b(_wall|_WallAttr)\b", path)
            notes = {id(node) for node in docstrings(TREES[path])}
            places = {node.lineno for node in ast.walk(TREES[path]) if id(node) in notes}
            for token in without_comments(text):
                if token.type == tokenize.STRING and token.start[0] in places:
                    continue
                for word in re.findall(r"\w+", token.string):
                    self.assertNotIn(word, BARRED_WORDS, (path, token.start))
                    self.assertNotRegex(word, "dataclass|overload|contextmanager", (path, token.start))
                if token.type == tokenize.NAME:
                    self.assertNotEqual(token.string, "type", (path, token.start))

    def test_attributes_and_methods(self):
        own = methods_of_package()
        stored = attributes_of_package()
        for path, tree in TREES.items():
            for node in ast.walk(tree):
                if isinstance(node, ast.Call) and isinstance(node.func, ast.Attribute):
                    self.assertIn(node.func.attr, METHODS | own | stored | {"__init__"}, (path, node.lineno))
                elif isinstance(node, ast.Attribute):
                    known = METHODS | own | stored | {"__class__", "__name__", "stdin", "stdout", "stderr", "argv"}
                    constants = {name for other in TREES.values() for name in names_bound(other)}
                    self.assertIn(node.attr, known | constants, (path, node.lineno))


class Code(unittest.TestCase):
    def nodes(self):
        for path, tree in TREES.items():
            for node in ast.walk(tree):
                yield (path, getattr(node, "lineno", 0)), node

    def test_module_level(self):
        kinds = (ast.FunctionDef, ast.ClassDef, ast.Import, ast.ImportFrom, ast.Assign, ast.AnnAssign)
        for path, tree in TREES.items():
            for place, node in enumerate(tree.body):
                note = place == 0 and isinstance(node, ast.Expr) and isinstance(node.value, ast.Constant)
                last = path.name == "__main__.py" and isinstance(node, ast.If)
                self.assertTrue(note or last or isinstance(node, kinds), (path, node.lineno))
                if isinstance(node, ast.Assign):
                    self.assertEqual([type(target) for target in node.targets], [ast.Name], (path, node.lineno))
                    calls = [part for part in ast.walk(node.value) if isinstance(part, (ast.Call, ast.ListComp))]
                    self.assertEqual(calls, [], (path, node.lineno))

    def test_statements(self):
        barred = (ast.Global, ast.AsyncFunctionDef, ast.AsyncFor, ast.AsyncWith, ast.Await)
        for where, node in self.nodes():
            self.assertNotIsInstance(node, barred, where)
            if isinstance(node, ast.ExceptHandler):
                self.assertIsNotNone(node.type, where)

    def test_no_float_and_no_slash(self):
        for where, node in self.nodes():
            if isinstance(node, ast.Constant):
                self.assertNotIsInstance(node.value, (float, complex), where)
            self.assertNotIsInstance(node, ast.Div, where)

    def test_strings(self):
        for where, node in self.nodes():
            if isinstance(node, ast.Constant) and isinstance(node.value, str):
                self.assertNotIn("%", node.value, where)
                self.assertFalse(node.value.endswith(("._", ".__")), where)
                self.assertFalse(len(node.value) > 4 and node.value[:2] == node.value[-2:] == "__" != node.value
                                 and node.value != "__main__", where)

    def test_is(self):
        for where, node in self.nodes():
            if isinstance(node, ast.Compare):
                sides = [node.left] + node.comparators
                for place, sign in enumerate(node.ops):
                    if isinstance(sign, (ast.Is, ast.IsNot)):
                        pair = sides[place:place + 2]
                        plain = [s for s in pair if isinstance(s, ast.Constant) and s.value in (None, True, False)]
                        named = [s for s in pair if isinstance(s, ast.Name)]
                        self.assertTrue(plain or named, where)

    def test_no_power_of_two_of_a_variable(self):
        for where, node in self.nodes():
            if isinstance(node, ast.BinOp) and isinstance(node.op, ast.Pow):
                left = node.left
                if isinstance(left, ast.Constant) and left.value == 2:
                    self.assertIsInstance(node.right, ast.Constant, where)

    def test_decorators(self):
        for where, node in self.nodes():
            if isinstance(node, ast.ClassDef):
                self.assertEqual(node.decorator_list, [], where)
            if isinstance(node, ast.FunctionDef):
                for part in node.decorator_list:
                    words = ast.unparse(part).split(".")
                    self.assertTrue(words[-1] in ("setter", "property", "staticmethod", "classmethod"), where)

    def test_sets_stand_where_they_may(self):
        for path, tree in TREES.items():
            above = {child: node for node in ast.walk(tree) for child in ast.iter_child_nodes(node)}
            for node in ast.walk(tree):
                made = isinstance(node, ast.Call) and isinstance(node.func, ast.Name) and node.func.id == "set"
                if made or isinstance(node, (ast.SetComp, ast.Set)):
                    outer = above[node]
                    while isinstance(outer, ast.BinOp):
                        outer = above[outer]
                    called = isinstance(outer, ast.Call) and isinstance(outer.func, ast.Name)
                    fits = called and outer.func.id in ("sorted", "len") or isinstance(
                        outer, (ast.Compare, ast.Assign))
                    self.assertTrue(fits, (path, node.lineno))

    def test_lists_that_are_iterated_over_are_not_changed(self):
        changing = {"append", "extend", "insert", "pop", "remove", "clear", "update", "setdefault", "reverse", "sort"}
        for where, node in self.nodes():
            if isinstance(node, ast.For) and isinstance(node.iter, (ast.Name, ast.Attribute)):
                name = ast.dump(node.iter)
                for part in ast.walk(node):
                    if isinstance(part, ast.Call) and isinstance(part.func, ast.Attribute):
                        if part.func.attr in changing:
                            self.assertNotEqual(ast.dump(part.func.value), name, where)

    def test_no_generator_where_a_class_is_compared(self):
        """A class of the package has __eq__ and __len__: so all, any, sorted and the like take lists."""
        for where, node in self.nodes():
            self.assertNotIsInstance(node, (ast.GeneratorExp, ast.Yield, ast.YieldFrom), where)
            if isinstance(node, ast.Call) and isinstance(node.func, ast.Attribute):
                self.assertNotEqual(node.func.attr, "sort", where)

    def test_own_errors_alone_are_caught(self):
        own = {node.name for tree in TREES.values() for node in ast.walk(tree) if isinstance(node, ast.ClassDef)}
        for where, node in self.nodes():
            if isinstance(node, ast.ExceptHandler):
                self.assertIn(ast.unparse(node.type), own, where)

    def test_methods_with_double_underscores(self):
        """None but __init__, __eq__ and __len__, the latter two in plain forms; nothing is iterated over."""
        for where, node in self.nodes():
            if isinstance(node, ast.FunctionDef) and node.name.startswith("__"):
                self.assertIn(node.name, ("__init__", "__eq__", "__len__"), where)
            if isinstance(node, ast.FunctionDef) and node.name in ("__eq__", "__len__"):
                self.assertEqual([type(part) for part in node.body], [ast.Return], where)
            if isinstance(node, ast.FunctionDef) and node.name == "__len__":
                self.assertEqual(ast.unparse(node.body[0].value)[:4], "len(", where)
            if isinstance(node, ast.FunctionDef) and node.name == "__init__":
                self.assertEqual([part for part in ast.walk(node) if isinstance(part, ast.Return)], [], where)

    def test_no_name_is_a_method_and_an_attribute_of_one_class(self):
        for where, node in self.nodes():
            if isinstance(node, ast.ClassDef):
                methods = {part.name for part in node.body if isinstance(part, ast.FunctionDef)}
                stored = {part.attr for part in ast.walk(node) if isinstance(part, ast.Attribute)
                          and isinstance(part.ctx, ast.Store)}
                self.assertFalse(methods & stored, where)

    def test_tables_are_read_by_a_name_ahead_of_a_call(self):
        for where, node in self.nodes():
            if isinstance(node, ast.Call):
                self.assertNotIsInstance(node.func, (ast.Subscript, ast.Call), where)

    def test_nothing_outside_is_asked(self):
        for where, node in self.nodes():
            if isinstance(node, ast.Name) and where[0].name != "__main__.py":
                self.assertNotIn(node.id, ("sys", "print", "__name__", "open", "input", "eval", "exec"), where)


if __name__ == "__main__":
    unittest.main()
