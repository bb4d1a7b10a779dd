"""Whether the files of the package keep to the subset of Python that they are written in, as far as a look at the
single files can tell.
"""

import ast
import builtins
import unittest
from pathlib import Path

PACKAGE = Path(__file__).resolve().parent.parent / "shutopen"
FILES = sorted(path for path in PACKAGE.rglob("*") if "__pycache__" not in path.parts)

BUILTINS = set("""len range enumerate zip min max sum abs sorted reversed int str bool bytes list tuple dict set frozenset
isinstance ord repr any all divmod pow getattr hasattr setattr iter next Exception ValueError TypeError KeyError IndexError
LookupError ZeroDivisionError ArithmeticError OverflowError RuntimeError NotImplementedError AttributeError StopIteration
NotImplemented staticmethod classmethod property super map""".split())
LIBRARY = {"math": {"gcd", "lcm", "isqrt", "comb", "perm", "factorial"},
           "heapq": {"heappush", "heappop", "heapify", "heapreplace", "heappushpop"},
           "itertools": {"product", "combinations", "permutations", "chain", "accumulate", "pairwise", "islice", "zip_longest"},
           "collections": {"defaultdict"}}
METHODS = set("""append clear copy count endswith extend find get index insert isalnum isalpha isdigit islower isspace isupper
items join keys ljust lower lstrip partition pop remove replace reverse rfind rjust rpartition rsplit rstrip setdefault split
splitlines startswith strip update upper values zfill bit_length title capitalize swapcase casefold center expandtabs
removeprefix removesuffix rindex isascii isdecimal isnumeric istitle isidentifier isprintable encode sort format add
discard""".split())
DOUBLE = set("""__init__ __eq__ __repr__ __str__ __len__ __enter__ __exit__ __call__ __iter__ __lt__ __le__ __gt__ __ge__ __ne__
__add__ __sub__ __mul__ __floordiv__ __mod__ __pow__ __and__ __or__ __xor__ __lshift__ __rshift__ __neg__ __pos__ __invert__
__abs__ __bool__ __contains__ __getitem__ __setitem__ __class__ __name__""".split())
UNUSED_WORDS = """type typing typing_extensions enum Enum IntEnum StrEnum Flag IntFlag Generic Protocol ABC ABCMeta namedtuple
NamedTuple TypedDict TYPE_CHECKING abstractmethod""".split()
UNUSED_NAMES = set("""register mro elements open input law version_info with_traceback add_note attrgetter breakpoint builtins
compile copyright credits delattr dir eval exec exit gc globals help id importlib license locals methodcaller os quit type vars
sys""".split())
AT_ONCE = {"range", "zip", "enumerate", "reversed"}
TAKERS = {"list", "tuple", "dict", "sorted", "sum", "any", "all", "enumerate", "zip", "min", "max", "len", "reversed"}
LIST_TAKERS = {"any", "all", "min", "max", "sum", "sorted"}


def parsed(path):
    return ast.parse(path.read_text())


def with_parents(tree):
    for node in ast.walk(tree):
        for child in ast.iter_child_nodes(node):
            child.parent = node
    return tree


def bound_names(tree):
    """All names that functions of a file bind: parameters, targets, nested functions."""
    names = set()
    for node in ast.walk(tree):
        if isinstance(node, ast.arg):
            names.add(node.arg)
        elif isinstance(node, ast.Name) and not isinstance(node.ctx, ast.Load):
            names.add(node.id)
    return names


def called(node):
    return node.func.id if isinstance(node, ast.Call) and isinstance(node.func, ast.Name) else None


class TestFiles(unittest.TestCase):
    def test_only_files_of_python(self):
        self.assertTrue(FILES)
        for path in FILES:
            self.assertEqual(path.suffix, ".py")
            self.assertRegex(path.stem, "^[a-z0-9_]+$")
            self.assertFalse(path.stem in dir(builtins) or path.stem.startswith(("law_", "test")), path)
        self.assertIn(PACKAGE / "__init__.py", FILES)

    def test_characters_and_sizes(self):
        for path in FILES:
            text = path.read_text()
            self.assertTrue(all(" " <= char <= "~" or char == "\n" for char in text), path)
            lines = text.split("\n")
            self.assertLess(len(lines), 400, path)
            self.assertLessEqual(max(map(len, lines)), 120, path)
            self.assertNotIn("_wall", text)
            for node in ast.walk(parsed(path)):
                if isinstance(node, ast.FunctionDef):
                    self.assertLessEqual(node.end_lineno - node.lineno + 1, 40, (path, node.name))

    def test_module_level(self):
        for path in FILES:
            for at, node in enumerate(parsed(path).body):
                if isinstance(node, ast.Expr):
                    self.assertTrue(at == 0 and isinstance(node.value, ast.Constant), (path, node.lineno))
                elif isinstance(node, ast.Assign):
                    self.assertTrue(len(node.targets) == 1 and isinstance(node.targets[0], ast.Name), (path, node.lineno))
                else:
                    self.assertIsInstance(node, (ast.ImportFrom, ast.FunctionDef, ast.ClassDef), (path, node.lineno))


class TestImports(unittest.TestCase):
    def test_imports_name_the_file_that_defines(self):
        for path in FILES:
            for node in ast.walk(parsed(path)):
                self.assertNotIsInstance(node, ast.Import)
                if isinstance(node, ast.ImportFrom):
                    self.assertTrue(node.level == 0 and all(name.asname is None and name.name != "*" for name in node.names))
                    if node.module in LIBRARY:
                        self.assertLessEqual({name.name for name in node.names}, LIBRARY[node.module])
                    else:
                        package, file = node.module.split(".")
                        self.assertEqual(package, "shutopen")
                        defined = self.defined(PACKAGE / f"{file}.py")
                        self.assertLessEqual({name.name for name in node.names}, defined, path)

    def defined(self, path):
        names = set()
        for node in parsed(path).body:
            if isinstance(node, (ast.FunctionDef, ast.ClassDef)):
                names.add(node.name)
            elif isinstance(node, ast.Assign):
                names.add(node.targets[0].id)
        return names

    def test_imports_are_used(self):
        for path in FILES:
            tree = parsed(path)
            used = {node.id for node in ast.walk(tree) if isinstance(node, ast.Name)}
            for node in tree.body:
                if isinstance(node, ast.ImportFrom):
                    self.assertLessEqual({name.name for name in node.names}, used, path)

    def test_no_two_files_import_from_each_other(self):
        needs = {path.stem: {node.module.split(".")[1] for node in parsed(path).body
                             if isinstance(node, ast.ImportFrom) and node.module.startswith("shutopen.")} for path in FILES}
        while needs:
            free = [name for name, others in needs.items() if not others & set(needs)]
            self.assertTrue(free, f"a circle within {sorted(needs)}")
            for name in free:
                del needs[name]


class TestNames(unittest.TestCase):
    def test_each_name_means_one_thing(self):
        for path in FILES:
            tree = parsed(path)
            tops = []
            for node in tree.body:
                if isinstance(node, ast.ImportFrom):
                    tops += [name.name for name in node.names]
                elif isinstance(node, (ast.FunctionDef, ast.ClassDef)):
                    tops.append(node.name)
                elif isinstance(node, ast.Assign):
                    tops.append(node.targets[0].id)
            self.assertEqual(len(tops), len(set(tops)), path)
            barred = {name for node in tree.body if isinstance(node, ast.ImportFrom) for name in [n.name for n in node.names]}
            barred |= {node.name for node in tree.body if isinstance(node, ast.ClassDef)}
            self.assertFalse(bound_names(tree) & barred, path)
            self.assertFalse((bound_names(tree) | set(tops)) & (set(dir(builtins)) | UNUSED_NAMES), path)

    def test_builtins_and_words(self):
        for path in FILES:
            for node in ast.walk(parsed(path)):
                if isinstance(node, ast.Name) and node.id in dir(builtins):
                    self.assertIn(node.id, BUILTINS, path)
                if isinstance(node, ast.Name) and node.id.startswith("_"):
                    self.assertEqual((node.id, type(node.ctx)), ("_", ast.Store), path)
                if isinstance(node, ast.Constant) and isinstance(node.value, str):
                    self.assertNotIn("%", node.value, path)
                name = getattr(node, "attr", None) or (node.name if isinstance(node, ast.FunctionDef) else "")
                self.assertFalse(name in UNUSED_WORDS or name in UNUSED_NAMES, (path, name))
                self.assertTrue(not name.startswith("_") or name in DOUBLE, (path, name))

    def test_methods_and_attributes_are_there(self):
        methods, attributes, properties = set(), set(), set()
        for path in FILES:
            for node in ast.walk(parsed(path)):
                if isinstance(node, ast.ClassDef):
                    parts = [part for part in node.body if isinstance(part, ast.FunctionDef)]
                    methods |= {part.name for part in parts}
                    properties |= {part.name for part in parts if "property" in [word.id for word in part.decorator_list]}
                if isinstance(node, ast.Attribute) and isinstance(node.ctx, ast.Store):
                    attributes.add(node.attr)
        methods -= properties
        self.assertFalse(methods & attributes or properties & attributes)
        self.assertFalse((methods - DOUBLE | attributes | properties) & (METHODS - {"add", "discard"}))
        for path in FILES:
            for node in ast.walk(with_parents(parsed(path))):
                if isinstance(node, ast.Attribute):
                    is_called = isinstance(node.parent, ast.Call) and node.parent.func is node
                    known = METHODS | methods | DOUBLE if is_called else attributes | properties | DOUBLE
                    self.assertIn(node.attr, known, (path, node.lineno))


class TestStatements(unittest.TestCase):
    def nodes(self):
        for path in FILES:
            for node in ast.walk(with_parents(parsed(path))):
                yield (path.name, getattr(node, "lineno", 0)), node

    def test_nothing_that_is_barred(self):
        barred = (ast.Global, ast.AsyncFunctionDef, ast.AsyncFor, ast.AsyncWith, ast.Await, ast.Div, ast.MatMult)
        for where, node in self.nodes():
            self.assertNotIsInstance(node, barred, where)
            if isinstance(node, ast.Constant):
                self.assertNotIsInstance(node.value, (float, complex, type(...)), where)
            if isinstance(node, ast.Compare) and any(isinstance(sign, (ast.Is, ast.IsNot)) for sign in node.ops):
                self.assertTrue(isinstance(node.comparators[-1], ast.Constant), where)

    def test_decorators_and_double_underscore_methods(self):
        for where, node in self.nodes():
            if isinstance(node, ast.FunctionDef):
                self.assertTrue(all(word.id in ("staticmethod", "classmethod", "property") for word in node.decorator_list), where)
                if node.name.startswith("_"):
                    self.assertIn(node.name, DOUBLE, where)
                    self.assertIsInstance(node.parent, ast.ClassDef, where)

    def test_iterated_at_once(self):
        for where, node in self.nodes():
            is_view = isinstance(node, ast.Call) and isinstance(node.func, ast.Attribute) and node.func.attr in ("items", "keys", "values")
            if called(node) in AT_ONCE or is_view:
                parent = node.parent
                iterated = isinstance(parent, (ast.For, ast.comprehension)) and parent.iter is node
                self.assertTrue(iterated or called(parent) in TAKERS, where)

    def test_generator_expressions(self):
        for where, node in self.nodes():
            if isinstance(node, ast.GeneratorExp):
                self.assertNotIn(called(node.parent), LIST_TAKERS, where)
                is_join = isinstance(node.parent.func, ast.Attribute) and node.parent.func.attr == "join"
                self.assertTrue(is_join or called(node.parent) in ("list", "tuple", "dict"), where)

    def test_generators_are_iterated_at_once(self):
        functions = [(where, node) for where, node in self.nodes() if isinstance(node, ast.FunctionDef)]
        names = {node.name for _, node in functions if any(isinstance(part, (ast.Yield, ast.YieldFrom)) for part in ast.walk(node))}
        for name in names:
            self.assertEqual(len([node for _, node in functions if node.name == name]), 1, name)
        for where, node in self.nodes():
            if isinstance(node, ast.Name) and node.id in names:
                call = node.parent
                self.assertTrue(isinstance(call, ast.Call) and call.func is node, where)
                iterated = isinstance(call.parent, (ast.For, ast.comprehension)) and call.parent.iter is call
                self.assertTrue(iterated or called(call.parent) in TAKERS - {"len", "reversed"}, where)
                plain = (ast.Name, ast.Attribute, ast.Constant)
                self.assertTrue(all(isinstance(part, plain) for part in [*call.args, *[more.value for more in call.keywords]]), where)

    def test_methods_of_double_underscores_assign_nothing_but_lists(self):
        for where, node in self.nodes():
            if isinstance(node, ast.FunctionDef) and node.name in ("__eq__", "__repr__", "__str__", "__len__"):
                self.assertIsInstance(node.body[-1], ast.Return, where)
                for part in ast.walk(node):
                    self.assertFalse(isinstance(part, ast.AugAssign), where)
                    self.assertTrue(not isinstance(part, ast.Assign) or isinstance(part.value, (ast.List, ast.ListComp, ast.Dict)), where)

    def test_raised_on_the_spot(self):
        for where, node in self.nodes():
            if isinstance(node, ast.Raise) and node.exc is not None:
                self.assertTrue(called(node.exc) is not None and called(node.exc)[0].isupper(), where)

    def test_strings_within_strings(self):
        for where, node in self.nodes():
            if isinstance(node, ast.FormattedValue):
                inner = [part for part in ast.walk(node.value) if isinstance(part, (ast.JoinedStr, ast.Constant))]
                self.assertFalse([part for part in inner if not isinstance(getattr(part, "value", ""), int)], where)

    def test_properties_only_return_something_of_their_own(self):
        for where, node in self.nodes():
            if isinstance(node, ast.FunctionDef) and "property" in [word.id for word in node.decorator_list]:
                self.assertEqual([type(part) for part in node.body], [ast.Return], where)
                self.assertFalse([part for part in ast.walk(node) if isinstance(part, ast.Call)], where)

    def test_finally_only_assigns_what_is_simple(self):
        for where, node in self.nodes():
            if isinstance(node, ast.Try):
                for part in node.finalbody:
                    self.assertIsInstance(part, ast.Assign, where)
                    self.assertIsInstance(part.value, (ast.Name, ast.Attribute, ast.Constant), where)

    def test_only_own_errors_are_caught(self):
        own = {node.name for node in parsed(PACKAGE / "errors.py").body if isinstance(node, ast.ClassDef)}
        for where, node in self.nodes():
            if isinstance(node, ast.ExceptHandler):
                caught = node.type.elts if isinstance(node.type, ast.Tuple) else [node.type]
                self.assertLessEqual({part.id for part in caught}, own, where)

    def test_stars_in_calls(self):
        for where, node in self.nodes():
            if isinstance(node, ast.Call):
                for part in [part.value for part in node.args if isinstance(part, ast.Starred)]:
                    # What stands behind a star is a name, or an attribute off one.
                    self.assertIsInstance(part.value if isinstance(part, ast.Attribute) else part, ast.Name, where)

    def test_lambdas(self):
        lines = [where for where, node in self.nodes() if isinstance(node, ast.Lambda)]
        self.assertEqual(len(lines), len(set(lines)))
        for where, node in self.nodes():
            if isinstance(node, ast.FunctionDef) and node.name.startswith("_"):
                self.assertFalse([part for part in ast.walk(node) if isinstance(part, ast.Lambda)], where)

    def test_sets_are_not_kept(self):
        for where, node in self.nodes():
            if called(node) == "set" or isinstance(node, (ast.Set, ast.SetComp)):
                self.assertIn(called(node.parent), ("sorted", "len"), where)

    def test_tables_at_module_level_hold_no_tables(self):
        for path in FILES:
            for node in parsed(path).body:
                if isinstance(node, ast.Assign) and isinstance(node.value, (ast.Dict, ast.List, ast.Tuple)):
                    inner = [part for part in ast.walk(node.value) if isinstance(part, (ast.Dict, ast.List)) and part is not node.value]
                    self.assertFalse(inner, (path, node.lineno))
