"""The files of the package keep to the subset of the language: what of it a look at the code can tell."""

import ast
import os
import re
import tokenize
import unittest

ROOT = os.path.dirname(os.path.dirname(os.path.abspath(__file__)))
PACKAGE = os.path.join(ROOT, "nextbough")
LIBRARY = {
    "heapq": {"heappush", "heappop", "heapify", "heapreplace", "heappushpop"},
    "math": {"gcd", "lcm", "isqrt", "comb", "perm", "factorial"},
    "itertools": {"product", "combinations", "permutations", "chain", "accumulate", "pairwise", "islice",
                  "zip_longest"},
    "collections": {"defaultdict", "deque"},
}
BUILTINS = set(
    "len range enumerate zip min max sum abs sorted reversed int str bool bytes list tuple dict set frozenset"
    " isinstance ord repr any all divmod pow map Exception ValueError TypeError KeyError IndexError LookupError"
    " ZeroDivisionError ArithmeticError OverflowError RuntimeError NotImplementedError StopIteration type".split()
)
METHODS = set(
    "append clear copy count endswith extend find get index insert isalnum isalpha isdigit islower isspace isupper"
    " items join keys ljust lower lstrip partition pop remove replace reverse rfind rjust rpartition rsplit rstrip"
    " setdefault split splitlines startswith strip update upper values zfill bit_length add discard sort".split()
)
NO_ATTRIBUTES = set("items keys values pop update append clear extend insert remove reverse setdefault sort args"
                    " encode decode hex fromhex format format_map mro".split())
NO_NAMES = set(
    "register mro elements open input law version_info with_traceback add_note attrgetter breakpoint builtins"
    " compile copyright credits delattr dir eval exec exit gc getattr globals hasattr help id importlib license"
    " locals methodcaller os quit setattr super vars sys".split()
)
NO_WORDS = set(
    "typing typing_extensions enum Enum IntEnum StrEnum Flag IntFlag Generic Protocol ABC ABCMeta namedtuple"
    " NamedTuple TypedDict TYPE_CHECKING abstractmethod".split()
)
PYTHON_NAMES = set(dir(__builtins__) if not isinstance(__builtins__, dict) else __builtins__)


def package_files():
    return sorted(name for name in os.listdir(PACKAGE) if name != "__pycache__")


def source_of(name):
    with open(os.path.join(PACKAGE, name), encoding="utf-8") as held:
        return held.read()


def trees():
    return [(name, ast.parse(source_of(name))) for name in package_files()]


def walked(kind):
    for name, tree in trees():
        for node in ast.walk(tree):
            if isinstance(node, kind):
                yield name, node


def bound_names(tree):
    for node in ast.walk(tree):
        if isinstance(node, ast.Name) and isinstance(node.ctx, (ast.Store, ast.Del)):
            yield node.id, node.lineno
        elif isinstance(node, ast.arg):
            yield node.arg, node.lineno
        elif isinstance(node, (ast.FunctionDef, ast.ClassDef)):
            yield node.name, node.lineno
        elif isinstance(node, ast.ExceptHandler) and node.name:
            yield node.name, node.lineno
        elif isinstance(node, ast.ImportFrom):
            for part in node.names:
                yield part.name, node.lineno


class FilesTest(unittest.TestCase):
    def test_folder_has_only_plain_files(self):
        for name in package_files():
            self.assertRegex(name, r"^(__init__|__main__|[a-z][a-z0-9_]*)\.py$")
        self.assertLessEqual(len(package_files()), 100)

    def test_characters_and_sizes(self):
        for name in package_files():
            text = source_of(name)
            self.assertRegex(text, r"\A[ -~\n]*\Z", name)
            rows = text.split("\n")
            self.assertLessEqual(len(rows) - 1, 399, name)
            self.assertLessEqual(max(len(row) for row in rows), 120, name)

    def test_functions_have_at_most_forty_lines(self):
        for name, node in walked(ast.FunctionDef):
            self.assertLessEqual(node.end_lineno - node.lineno + 1, 40, (name, node.name))

    def test_words_that_do_not_occur(self):
        for name in package_files():
            with open(os.path.join(PACKAGE, name), "rb") as held:
                for token in tokenize.tokenize(held.readline):
                    if token.type == tokenize.NAME:
                        self.assertNotIn(token.string, NO_WORDS, name)
            self.assertNotRegex(source_of(name), "_wall|_WallAttr|dataclass|overload|contextmanager", name)


class ImportsTest(unittest.TestCase):
    def test_imports_stand_at_the_top_and_name_the_defining_file(self):
        defined = {name[:-3]: {word for word, _ in self.top_names(tree)} for name, tree in trees()}
        for name, tree in trees():
            for node in ast.walk(tree):
                self.assertNotIsInstance(node, ast.Import, name)
                if not isinstance(node, ast.ImportFrom):
                    continue
                self.assertIn(node, tree.body, name)
                self.assertEqual(node.level, 0)
                for part in node.names:
                    self.assertIsNone(part.asname)
                    if node.module in LIBRARY:
                        self.assertIn(part.name, LIBRARY[node.module], name)
                    else:
                        self.assertRegex(node.module, r"^nextbough\.\w+$")
                        self.assertIn(part.name, defined[node.module.split(".")[1]], name)

    @staticmethod
    def top_names(tree):
        for node in tree.body:
            if isinstance(node, (ast.FunctionDef, ast.ClassDef)):
                yield node.name, node.lineno
            elif isinstance(node, ast.Assign):
                yield node.targets[0].id, node.lineno

    def test_no_two_files_import_from_each_other(self):
        asked = {}
        for name, tree in trees():
            asked[name[:-3]] = [
                node.module.split(".")[1]
                for node in ast.walk(tree)
                if isinstance(node, ast.ImportFrom) and node.module.startswith("nextbough.")
            ]
        done = set()
        while len(done) < len(asked):
            ready = [name for name in asked if name not in done and done.issuperset(asked[name])]
            self.assertTrue(ready, sorted(set(asked) - done))
            done.update(ready)

    def test_each_import_is_used(self):
        for name, tree in trees():
            used = {node.id for node in ast.walk(tree) if isinstance(node, ast.Name)}
            for node in tree.body:
                if isinstance(node, ast.ImportFrom):
                    for part in node.names:
                        self.assertIn(part.name, used, name)


class NamesTest(unittest.TestCase):
    def test_module_level(self):
        for name, tree in trees():
            bound = []
            for place, node in enumerate(tree.body):
                if isinstance(node, ast.Expr):
                    self.assertEqual(place, 0, name)
                    continue
                self.assertIsInstance(node, (ast.ImportFrom, ast.FunctionDef, ast.ClassDef, ast.Assign), name)
                if isinstance(node, ast.Assign):
                    self.assertEqual(len(node.targets), 1)
                    bound.append(node.targets[0].id)
                elif isinstance(node, ast.ImportFrom):
                    bound.extend(part.name for part in node.names)
                else:
                    bound.append(node.name)
            self.assertEqual(len(bound), len(set(bound)), name)

    def test_no_name_has_another_meaning(self):
        for name, tree in trees():
            methods = {
                node.name: True
                for holder in ast.walk(tree)
                if isinstance(holder, ast.ClassDef)
                for node in holder.body
                if isinstance(node, ast.FunctionDef)
            }
            for word, line in bound_names(tree):
                if word in methods:
                    continue
                self.assertNotIn(word, PYTHON_NAMES - LIBRARY_NAMES, (name, line))
                self.assertNotIn(word, NO_NAMES, (name, line))
                self.assertRegex(word, r"^(_|_?[A-Za-z][A-Za-z0-9_]*)$", (name, line))

    def test_parameters_and_variables_do_not_hide_imports_and_classes(self):
        for name, tree in trees():
            taken = {part.name for node in tree.body if isinstance(node, ast.ImportFrom) for part in node.names}
            taken.update(node.name for node in tree.body if isinstance(node, (ast.ClassDef, ast.FunctionDef)))
            for node in ast.walk(tree):
                if isinstance(node, ast.arg):
                    self.assertNotIn(node.arg, taken, (name, node.lineno))
                elif isinstance(node, ast.Name) and isinstance(node.ctx, ast.Store):
                    self.assertNotIn(node.id, taken, (name, node.lineno))

    def test_only_these_builtins_are_used(self):
        for name, tree in trees():
            own = {word for word, _ in bound_names(tree)}
            for node in ast.walk(tree):
                if isinstance(node, ast.Name) and node.id not in own:
                    self.assertIn(node.id, BUILTINS, (name, node.lineno))

    def test_underscore_is_never_read(self):
        for name, node in walked(ast.Name):
            if node.id == "_":
                self.assertIsInstance(node.ctx, ast.Store, (name, node.lineno))

    def test_methods_are_known(self):
        own = {node.name for _, node in walked(ast.FunctionDef)}
        for name, node in walked(ast.Call):
            if isinstance(node.func, ast.Attribute):
                self.assertIn(node.func.attr, own | METHODS, (name, node.lineno))

    def test_attributes(self):
        stored = set()
        for name, node in walked(ast.Attribute):
            if isinstance(node.ctx, ast.Store):
                self.assertNotIn(node.attr, NO_ATTRIBUTES, name)
                stored.add(node.attr)
        for name, node in walked(ast.ClassDef):
            methods = [part.name for part in node.body if isinstance(part, ast.FunctionDef)]
            self.assertEqual(len(methods), len(set(methods)), node.name)
            own = {
                part.attr
                for part in ast.walk(node)
                if isinstance(part, ast.Attribute) and isinstance(part.ctx, ast.Store)
            }
            self.assertFalse(own.intersection(methods), (name, node.name))


LIBRARY_NAMES = set()


class ExpressionsTest(unittest.TestCase):
    def test_no_forbidden_statement_or_expression(self):
        barred = (ast.AsyncFunctionDef, ast.Await, ast.AsyncFor, ast.AsyncWith, ast.Global, ast.Div, ast.MatMult,
                  ast.GeneratorExp, ast.Yield, ast.YieldFrom, ast.AnnAssign, ast.Try)
        for name, tree in trees():
            for node in ast.walk(tree):
                if isinstance(node, ast.Try):
                    self.assertFalse(node.finalbody)
                    for handler in node.handlers:
                        self.assertIsNotNone(handler.type)
                    continue
                self.assertNotIsInstance(node, barred, (name, getattr(node, "lineno", 0)))

    def test_literals(self):
        for name, node in walked(ast.Constant):
            self.assertNotIsInstance(node.value, (float, complex), (name, node.lineno))
            if isinstance(node.value, str):
                self.assertNotIn("%", node.value, (name, node.lineno))

    def test_no_decorators(self):
        for name, node in walked((ast.FunctionDef, ast.ClassDef)):
            self.assertEqual(node.decorator_list, [], (name, node.name))

    def test_sets_stand_only_where_they_may(self):
        for name, tree in trees():
            parents = {child: node for node in ast.walk(tree) for child in ast.iter_child_nodes(node)}
            for node in ast.walk(tree):
                is_call = isinstance(node, ast.Call) and isinstance(node.func, ast.Name) and node.func.id == "set"
                if not (is_call or isinstance(node, (ast.SetComp, ast.Set))):
                    continue
                above = parents[node]
                fits = isinstance(above, ast.Compare) or (
                    isinstance(above, ast.Call)
                    and isinstance(above.func, ast.Name)
                    and above.func.id in ("sorted", "len")
                    and not above.keywords
                )
                self.assertTrue(fits, (name, node.lineno))

    def test_exponents_are_small_literals(self):
        for name, node in walked(ast.BinOp):
            if isinstance(node.op, ast.Pow):
                self.assertIsInstance(node.right, ast.Constant, (name, node.lineno))
                self.assertLessEqual(node.right.value, 64)

    def test_is_stands_beside_none_and_kinds_alone(self):
        for name, node in walked(ast.Compare):
            for sign, right in zip(node.ops, node.comparators):
                if isinstance(sign, (ast.Is, ast.IsNot)):
                    # The kind of a value is asked beside a class by its name, or beside that of another value.
                    kinds = isinstance(node.left, ast.Call) and getattr(node.left.func, "id", "") == "type"
                    kinds = kinds and (isinstance(right, ast.Name) or getattr(right.func, "id", "") == "type")
                    plain = isinstance(right, ast.Constant) and right.value in (None, True, False)
                    self.assertTrue(kinds or plain, (name, node.lineno))

    def test_errors_are_raised_by_name(self):
        again = [(name, node.lineno) for name, held in walked(ast.ExceptHandler) for node in held.body]
        for name, node in walked(ast.Raise):
            if node.exc is None:
                self.assertIn((name, node.lineno), again)
                continue
            self.assertIsInstance(node.exc, ast.Call, (name, node.lineno))
            self.assertRegex(node.exc.func.id, r"^[A-Z]", (name, node.lineno))

    def test_no_escapes_but_the_plain_ones(self):
        for name in package_files():
            for found in re.findall(r"\\(.)", source_of(name)):
                self.assertIn(found, "nt\\\"'", name)


if __name__ == "__main__":
    unittest.main()
