"""Holds the package against those rules of the language that its trees show (L1 to L28)."""

import ast
import builtins
import os
import re
import unittest

PACKAGE = os.path.join(os.path.dirname(os.path.dirname(os.path.abspath(__file__))), "listwindow")

BUILTINS = set("""len range enumerate zip min max sum abs sorted reversed int str bool bytes list tuple dict set
    frozenset isinstance ord repr any all divmod ValueError TypeError NotImplemented property""".split())
METHODS = set("""append clear copy count endswith extend find get index insert isalnum isalpha isdigit islower isspace
    isupper items join keys ljust lower lstrip partition pop remove replace reverse rfind rjust rpartition rsplit
    rstrip setdefault split splitlines startswith strip update upper values zfill bit_length""".split())
# The examples that doctest runs leave the name _ behind.
ALL_BUILTINS = set(dir(builtins)) - {"_"}
DUNDERS = set("__init__ __eq__ __repr__ __str__ __len__ __add__ __iter__ __getitem__ __call__".split())
NOWHERE = set("register mro elements open input law version_info with_traceback add_note".split())
NOT_AS_NAMES = set("""attrgetter breakpoint builtins compile copyright credits delattr dir eval exec exit gc getattr
    globals hasattr help id importlib license locals methodcaller os quit setattr super type vars sys""".split())
WORDS = set("""type typing typing_extensions enum Enum IntEnum StrEnum Flag IntFlag Generic Protocol ABC ABCMeta
    namedtuple NamedTuple TypedDict TYPE_CHECKING abstractmethod""".split())
NODES = (ast.Module, ast.Expr, ast.Constant, ast.ImportFrom, ast.alias, ast.FunctionDef, ast.ClassDef, ast.arguments,
         ast.arg, ast.Name, ast.Attribute, ast.Call, ast.keyword, ast.Lambda, ast.Return, ast.Assign, ast.AugAssign,
         ast.If, ast.IfExp, ast.For, ast.While, ast.Raise, ast.Compare, ast.BoolOp, ast.BinOp, ast.UnaryOp,
         ast.Subscript, ast.Slice, ast.List, ast.Tuple, ast.Dict, ast.ListComp, ast.DictComp, ast.SetComp,
         ast.comprehension, ast.expr_context, ast.boolop, ast.unaryop, ast.cmpop, ast.Break, ast.Continue, ast.Pass,
         ast.Add, ast.Sub, ast.Mult, ast.FloorDiv, ast.Mod, ast.Try, ast.ExceptHandler, ast.JoinedStr,
         ast.FormattedValue)
AT_ONCE = ("list", "tuple", "dict", "sorted", "sum", "any", "all", "enumerate", "zip", "min", "max")
LIBRARY = {"math": ("gcd", "lcm", "isqrt", "comb", "perm", "factorial"),
           "heapq": ("heapify", "heappop", "heappush", "heappushpop", "heapreplace")}
KEYWORDS = {"sorted": ("key", "reverse"), "min": ("key", "default"), "max": ("key", "default"),
            "sum": ("start",), "enumerate": ("start",), "zip": ("strict",)}


def file_names():
    return sorted(name for name in os.listdir(PACKAGE) if name != "__pycache__")


def text_of(name):
    with open(os.path.join(PACKAGE, name), encoding="utf-8") as told:
        return told.read()


def trees():
    for name in file_names():
        yield name, ast.parse(text_of(name))


def with_parents(tree):
    for parent in ast.walk(tree):
        for child in ast.iter_child_nodes(parent):
            yield child, parent


def called(node):
    """The bare name that a call calls, None for others."""
    return node.func.id if isinstance(node, ast.Call) and isinstance(node.func, ast.Name) else None


def bound_names(node):
    """The parameters and variables of a function or a lambda."""
    for part in ast.walk(node):
        if isinstance(part, ast.arg):
            yield part.arg
        if isinstance(part, ast.Name) and isinstance(part.ctx, ast.Store):
            yield part.id


def module_names(tree):
    names = []
    for node in tree.body:
        if isinstance(node, (ast.FunctionDef, ast.ClassDef)):
            names.append(node.name)
        if isinstance(node, ast.ImportFrom):
            names += [told.name for told in node.names]
        if isinstance(node, ast.Assign):
            names += [target.id for target in node.targets]
    return names


def own_methods():
    return {part.name for _, tree in trees() for node in ast.walk(tree) if isinstance(node, ast.ClassDef)
            for part in node.body if isinstance(part, ast.FunctionDef)}


class FilesTest(unittest.TestCase):
    def test_names(self):
        for name in file_names():
            self.assertRegex(name, r"^[a-z_][a-z0-9_]*\.py$")
            self.assertNotIn(name[:-3], ALL_BUILTINS | NOWHERE | NOT_AS_NAMES | {"test", "tests", "site"})
        self.assertIn("__init__.py", file_names())
        self.assertLessEqual(len(file_names()), 100)

    def test_sizes_and_characters(self):
        for name in file_names():
            lines = text_of(name).split("\n")
            self.assertLessEqual(len(lines), 400, name)
            for line in lines:
                self.assertLessEqual(len(line), 120, (name, line))
                self.assertRegex(line, r"^[ -~]*$", name)

    def test_functions_are_short(self):
        for name, tree in trees():
            for node in ast.walk(tree):
                if isinstance(node, ast.FunctionDef):
                    self.assertLessEqual(node.end_lineno - node.lineno + 1, 40, (name, node.name))

    def test_words(self):
        for name, tree in trees():
            strings = [node.value for node in ast.walk(tree)
                       if isinstance(node, ast.Constant) and isinstance(node.value, str)]
            for told in strings:
                self.assertNotIn("%", told, name)
            code = re.sub(r'"""(.|\n)*?"""|#[^\n]*', "", text_of(name))
            self.assertEqual(set(re.findall(r"\w+", code)) & WORDS, set(), name)


class TreesTest(unittest.TestCase):
    def test_module_level(self):
        for name, tree in trees():
            rest = tree.body[1:] if ast.get_docstring(tree) else tree.body
            imports = [node for node in rest if isinstance(node, ast.ImportFrom)]
            self.assertEqual(rest[:len(imports)], imports, name)
            for node in rest[len(imports):]:
                self.assertIsInstance(node, (ast.FunctionDef, ast.ClassDef, ast.Assign), name)
            self.assertEqual(len(module_names(tree)), len(set(module_names(tree))), name)

    def test_imports(self):
        known = {"listwindow." + name[:-3]: tree for name, tree in trees()}
        ahead = {}
        for name, tree in known.items():
            nodes = [node for node in ast.walk(tree) if isinstance(node, (ast.Import, ast.ImportFrom))]
            ahead[name] = {node.module for node in nodes}
            for node in nodes:
                self.assertEqual(node.level, 0)
                if node.module in LIBRARY:
                    for told in node.names:
                        self.assertIsNone(told.asname)
                        self.assertIn(told.name, LIBRARY[node.module])
                    continue
                here = module_names(known[node.module])
                for told in node.names:
                    self.assertIsNone(told.asname)
                    self.assertIn(told.name, here)
        left = {name: needed - set(LIBRARY) for name, needed in ahead.items()}
        while left:
            free = [name for name, needed in left.items() if not needed & set(left)]
            self.assertTrue(free, "modules import from each other: " + str(sorted(left)))
            left = {name: needed for name, needed in left.items() if name not in free}

    def test_nothing_but_what_the_rules_allow(self):
        for name, tree in trees():
            for node in ast.walk(tree):
                self.assertIsInstance(node, NODES, (name, getattr(node, "lineno", 0)))
                if isinstance(node, ast.Constant):
                    self.assertIsInstance(node.value, (int, str, bool, type(None)), name)
                if isinstance(node, ast.Compare):
                    for sign, other in zip(node.ops, node.comparators):
                        if isinstance(sign, (ast.Is, ast.IsNot)):
                            self.assertIsInstance(other, ast.Constant, name)
                if isinstance(node, (ast.arg, ast.FunctionDef)):
                    self.assertIsNone(getattr(node, "annotation", None) or getattr(node, "returns", None))

    def test_functions_and_classes(self):
        for name, tree in trees():
            for node, parent in with_parents(tree):
                if isinstance(node, ast.FunctionDef):
                    decorators = [told.id for told in node.decorator_list]
                    self.assertIn(decorators, [[], ["property"]], name)
                    self.assertNotIn(node.name, ALL_BUILTINS)
                    if node.name.startswith("__"):
                        self.assertIn(node.name, DUNDERS, name)
                        self.assertIsInstance(parent, ast.ClassDef, (name, node.name))
                if isinstance(node, ast.ClassDef):
                    self.assertEqual(node.decorator_list, [])
                    self.assertIs(parent, tree)

    def test_names(self):
        for name, tree in trees():
            classes = [node.name for node in tree.body if isinstance(node, ast.ClassDef)]
            imports = [told.name for node in tree.body if isinstance(node, ast.ImportFrom) for told in node.names]
            barred = set(classes) | set(imports) | ALL_BUILTINS | NOT_AS_NAMES | NOWHERE
            for node in ast.walk(tree):
                if isinstance(node, (ast.FunctionDef, ast.Lambda)):
                    self.assertEqual(set(bound_names(node)) & barred, set(), (name, getattr(node, "name", "lambda")))
                    for told in bound_names(node):
                        self.assertRegex(told, r"^(_?[A-Za-z][A-Za-z0-9_]*|_)$")
                if isinstance(node, ast.Name) and isinstance(node.ctx, ast.Load):
                    self.assertNotEqual(node.id, "_", name)
                    if node.id in ALL_BUILTINS:
                        self.assertIn(node.id, BUILTINS, (name, node.lineno))
                if isinstance(node, ast.Attribute):
                    self.assertNotIn(node.attr, NOWHERE, name)

    def test_calls(self):
        methods = own_methods()
        for name, tree in trees():
            for node in ast.walk(tree):
                if isinstance(node, ast.Call) and isinstance(node.func, ast.Attribute):
                    self.assertIn(node.func.attr, METHODS | methods, (name, node.lineno))
                    self.assertEqual(node.keywords, [], (name, node.lineno))
                if called(node) in ALL_BUILTINS:
                    for told in node.keywords:
                        self.assertIn(told.arg, KEYWORDS.get(called(node), ()), (name, node.lineno))

    def test_what_the_library_gives_is_only_called(self):
        given = {told for names in LIBRARY.values() for told in names}
        for name, tree in trees():
            imported = {told.name for node in ast.walk(tree) if isinstance(node, ast.ImportFrom)
                        for told in node.names if node.module in LIBRARY}
            calls = [node.func for node in ast.walk(tree) if isinstance(node, ast.Call) and not node.keywords]
            for node in ast.walk(tree):
                if isinstance(node, ast.Name) and node.id in given & imported:
                    self.assertIn(node, calls, (name, node.lineno))

    def test_what_is_iterated_at_once(self):
        for name, tree in trees():
            for node, parent in with_parents(tree):
                views = (isinstance(node, ast.Call) and isinstance(node.func, ast.Attribute)
                         and node.func.attr in ("items", "keys", "values"))
                if views or called(node) in ("zip", "enumerate", "reversed", "range"):
                    at_once = (isinstance(parent, (ast.For, ast.comprehension)) and parent.iter is node
                               or called(parent) in AT_ONCE and node in parent.args)
                    self.assertTrue(at_once, (name, node.lineno))

    def test_sets(self):
        for name, tree in trees():
            for node, parent in with_parents(tree):
                if called(node) == "set" or isinstance(node, ast.SetComp):
                    stands = called(parent) in ("sorted", "len") and parent.keywords == []
                    self.assertTrue(stands or isinstance(parent, ast.Compare), (name, node.lineno))

    def test_one_lambda_on_a_line(self):
        for name, tree in trees():
            lines = [node.lineno for node in ast.walk(tree) if isinstance(node, ast.Lambda)]
            self.assertEqual(len(lines), len(set(lines)), name)

    def test_operators_and_properties_modify_nothing(self):
        for name, tree in trees():
            for node in ast.walk(tree):
                if not isinstance(node, ast.FunctionDef):
                    continue
                if node.name in ("__eq__", "__len__", "__add__", "__repr__", "__str__"):
                    for part in ast.walk(node):
                        self.assertNotIsInstance(part, (ast.Assign, ast.AugAssign, ast.For, ast.While), name)
                if node.decorator_list or node.name == "__getitem__":
                    # Local names alone are bound.
                    stored = [part for part in ast.walk(node) if isinstance(getattr(part, "ctx", None), ast.Store)]
                    for part in stored:
                        self.assertIsInstance(part, (ast.Name, ast.Tuple), (name, node.name))
                    self.assertEqual([part for part in ast.walk(node) if isinstance(part, ast.AugAssign)], [])
                if node.name == "__init__":
                    self.assertEqual([part for part in ast.walk(node) if isinstance(part, ast.Return)], [])
                if node.name == "__len__":
                    self.assertEqual(called(node.body[-1].value), "len")

    def test_classes_with_items_are_not_iterated_over(self):
        for name, tree in trees():
            for node in ast.walk(tree):
                if isinstance(node, ast.ClassDef):
                    methods = {part.name: part for part in node.body if isinstance(part, ast.FunctionDef)}
                    if "__getitem__" in methods:
                        self.assertIsInstance(methods["__iter__"].body[0], ast.Raise, name)

    def test_errors_that_are_caught(self):
        for name, tree in trees():
            for node in ast.walk(tree):
                if isinstance(node, ast.ExceptHandler):
                    self.assertEqual((node.type.id, node.name), ("WindowError", None), name)
                if isinstance(node, ast.Try):
                    self.assertEqual((node.orelse, node.finalbody), ([], []), name)
                if isinstance(node, ast.Raise):
                    self.assertIsInstance(node.exc, ast.Call, name)

    def test_module_level_lists_and_dicts_are_read_alone(self):
        for name, tree in trees():
            names = [node.targets[0].id for node in tree.body if isinstance(node, ast.Assign)
                     and isinstance(node.value, (ast.Dict, ast.List))]
            for node, parent in with_parents(tree):
                if isinstance(node, ast.Name) and node.id in names and isinstance(node.ctx, ast.Load):
                    is_read = (isinstance(parent, ast.Subscript) and isinstance(parent.ctx, ast.Load)
                               or isinstance(parent, ast.Attribute) and parent.attr == "get"
                               or isinstance(parent, ast.Compare))
                    self.assertTrue(is_read, (name, node.lineno))
