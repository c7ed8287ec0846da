"""The rules of LANGUAGE.md that can be checked by looking at the code of the package."""

import ast
import builtins
import keyword
import pathlib
import re
import unittest

PACKAGE = pathlib.Path(__file__).resolve().parent.parent / "foldsheet"
FILES = sorted(PACKAGE.rglob("*.py"))
LIBRARY = {
    "math": {"gcd", "lcm", "isqrt", "comb", "perm", "factorial"},
    "itertools": {"product", "combinations", "permutations"},
    "heapq": {"heappush", "heappop", "heapify", "heapreplace", "heappushpop"},
}
BUILTINS = set(
    "len range enumerate zip min max sum abs sorted reversed int str bool list tuple dict set isinstance ord repr any"
    " all divmod iter property classmethod staticmethod super ValueError KeyError IndexError LookupError".split())
METHODS = set(
    "append clear copy count endswith extend find get index insert isalnum isalpha isdigit islower isspace isupper"
    " items join keys ljust lower lstrip partition pop remove replace reverse rfind rjust rpartition rsplit rstrip"
    " setdefault split splitlines startswith strip update upper values zfill bit_length isascii isdecimal"
    " removeprefix removesuffix add discard".split())
BARRED = set(
    "register mro elements open input law version_info with_traceback add_note attrgetter breakpoint builtins compile"
    " copyright credits delattr dir eval exec exit gc globals help id importlib license locals methodcaller os quit"
    " vars sys".split())
BARRED_WORDS = re.compile(
    r"\b(type|typing|typing_extensions|enum|Enum|IntEnum|StrEnum|Flag|IntFlag|Generic|Protocol|ABC|ABCMeta|namedtuple"
    r"|NamedTuple|TypedDict|TYPE_CHECKING|abstractmethod)\b|dataclass|overload|contextmanager")
STATEMENTS = (ast.Expr, ast.ImportFrom, ast.FunctionDef, ast.ClassDef, ast.Assign)
NODES = (
    ast.AsyncFunctionDef, ast.AsyncFor, ast.AsyncWith, ast.Await, ast.Import, ast.Global, ast.Div, ast.MatMult,
    ast.SetComp,
)


def trees():
    return [(path.name, ast.parse(path.read_text())) for path in FILES]


def walk(kinds):
    return [(name, node) for name, tree in trees() for node in ast.walk(tree) if isinstance(node, kinds)]


# Names of methods and attributes that values of Python's own have, and those of them that attributes may have.
OF_VALUES = {name for each in (str, int, list, dict, set, bytes, tuple) for name in dir(each)}
FREE_ATTRIBUTES = set("count index title find get join lower upper split strip copy add".split())
AT_ONCE = set("list tuple dict sorted sum any all enumerate zip min max".split())
PASSING = {"range", "zip", "enumerate", "reversed", "items", "keys", "values"}


def called_name(node):
    """The name of the function or method that is called, or None."""
    if not isinstance(node, ast.Call):
        return None
    return getattr(node.func, "id", getattr(node.func, "attr", None))


def iterated_at_once(tree):
    """All that stands behind the `in` of a loop or a comprehension, or first in a call that goes over it."""
    found = [node.iter for node in ast.walk(tree) if isinstance(node, (ast.For, ast.comprehension))]
    return found + [node.args[0] for node in ast.walk(tree) if called_name(node) in AT_ONCE and node.args] + [
        node for call in ast.walk(tree) if called_name(call) == "zip" for node in call.args]


def bound_names(node):
    if isinstance(node, ast.arg):
        return [node.arg]
    if isinstance(node, (ast.FunctionDef, ast.ClassDef)):
        return [node.name]
    if isinstance(node, ast.Name) and not isinstance(node.ctx, ast.Load):
        return [node.id]
    return []


class LanguageTest(unittest.TestCase):
    def test_the_package_holds_nothing_but_its_files(self):
        for path in PACKAGE.rglob("*"):
            if "__pycache__" not in path.parts:
                self.assertEqual(path.suffix, ".py", path)
                self.assertTrue(re.fullmatch(r"[a-z_]+\.py", path.name), path)
        self.assertLessEqual(len(FILES), 100)

    def test_sizes_and_characters(self):
        for path in FILES:
            lines = path.read_text().split("\n")
            self.assertLessEqual(len(lines), 400, path)
            for line in lines:
                self.assertLessEqual(len(line), 120, (path, line))
                self.assertTrue(all(" " <= letter <= "~" for letter in line), (path, line))
        for name, node in walk(ast.FunctionDef):
            self.assertLessEqual(node.end_lineno - node.lineno + 1, 40, (name, node.name))

    def test_imports(self):
        defined = {name[:-3]: {each.name for each in tree.body if hasattr(each, "name")} | {
            target.id for each in tree.body if isinstance(each, ast.Assign) for target in each.targets}
            for name, tree in trees()}
        imported = {name[:-3]: set() for name, _ in trees()}
        for name, node in walk(ast.ImportFrom):
            words = {each.name for each in node.names}
            self.assertTrue(all(each.asname is None for each in node.names) and node.level == 0, name)
            if node.module in LIBRARY:
                self.assertLessEqual(words, LIBRARY[node.module], name)
            else:
                self.assertTrue(node.module.startswith("foldsheet."), (name, node.module))
                source = node.module.removeprefix("foldsheet.")
                self.assertLessEqual(words, defined[source], (name, source))
                imported[name[:-3]].add(source)
        while imported:
            free = [name for name, sources in imported.items() if not sources & set(imported)]
            self.assertTrue(free, f"files import each other: {sorted(imported)}")
            for name in free:
                del imported[name]

    def test_module_level(self):
        for name, tree in trees():
            for node in tree.body:
                self.assertIsInstance(node, STATEMENTS, (name, node.lineno))
                if isinstance(node, ast.Expr):
                    self.assertIsInstance(node.value, ast.Constant, (name, node.lineno))
                if isinstance(node, ast.Assign):
                    self.assertEqual(len(node.targets), 1, (name, node.lineno))
                    self.assertFalse([each for each in ast.walk(node) if isinstance(each, ast.Call)], name)

    def test_statements_and_operators(self):
        self.assertEqual([(name, node) for name, node in walk(NODES)], [])
        for name, node in walk(ast.BinOp):
            if isinstance(node.op, ast.Pow):
                self.assertIsInstance(node.right, ast.Constant, (name, node.lineno))
        for name, node in walk(ast.Compare):
            for sign, right in zip(node.ops, node.comparators):
                if isinstance(sign, (ast.Is, ast.IsNot)):
                    self.assertIn(getattr(right, "value", "other"), (None, True, False), (name, node.lineno))
        for name, node in walk((ast.FunctionDef, ast.ClassDef)):
            for decorator in node.decorator_list:
                self.assertIn(decorator.id, ("property", "classmethod", "staticmethod"), (name, node.name))

    def test_constants(self):
        for name, node in walk(ast.Constant):
            self.assertNotIsInstance(node.value, (float, complex), (name, node.lineno))
        for name, tree in trees():
            for text in self.strings(tree):
                self.assertNotIn("%", text, name)
                self.assertIsNone(BARRED_WORDS.search(text), (name, text))

    def strings(self, tree):
        comments = [node.value for node in ast.walk(tree) if isinstance(node, ast.Expr)]
        return [node.value for node in ast.walk(tree)
                if isinstance(node, ast.Constant) and isinstance(node.value, str) and node not in comments]

    def test_names(self):
        for name, tree in trees():
            taken = {each.name for node in tree.body if isinstance(node, ast.ImportFrom) for each in node.names}
            taken |= {node.name for node in tree.body if isinstance(node, ast.ClassDef)}
            methods = [each for node in ast.walk(tree) if isinstance(node, ast.ClassDef) for each in node.body]
            for node in ast.walk(tree):
                for bound in bound_names(node):
                    self.assertIsNone(BARRED_WORDS.fullmatch(bound), (name, bound))
                    self.assertNotIn(bound, BARRED | set(keyword.softkwlist) - {"_"}, name)
                    if node not in methods:
                        self.assertFalse(hasattr(builtins, bound), (name, bound))
                    if not isinstance(node, ast.ClassDef):
                        self.assertNotIn(bound, taken, name)
                    self.assertRegex(bound, r"^_?[A-Za-z][A-Za-z0-9_]*$|^_$|^__[a-z]+__$")

    def test_builtins_and_methods(self):
        own = {node.name for _, node in walk(ast.FunctionDef)}
        for name, node in walk(ast.Name):
            if hasattr(builtins, node.id):
                self.assertIn(node.id, BUILTINS, (name, node.lineno))
        for name, node in walk(ast.Call):
            if isinstance(node.func, ast.Attribute):
                self.assertIn(node.func.attr, METHODS | own, (name, node.lineno))
        for name, node in walk(ast.Attribute):
            self.assertNotRegex(node.attr, "^__(?!init__)", (name, node.lineno))

    def test_attributes_methods_and_properties(self):
        methods, properties = set(), set()
        for name, node in walk(ast.ClassDef):
            for each in node.body:
                if isinstance(each, ast.FunctionDef):
                    shown = [mark.id for mark in each.decorator_list]
                    (properties if "property" in shown else methods).add(each.name)
        self.assertEqual(properties & methods, set())
        stored = [node for name, node in walk(ast.Attribute) if isinstance(node.ctx, ast.Store)]
        for node in stored:
            self.assertNotIn(node.attr, OF_VALUES - FREE_ATTRIBUTES, node.lineno)
            self.assertNotIn(node.attr, properties | methods, node.lineno)
        for name in (methods | properties) - {"__init__", "__len__", "__iter__"}:
            self.assertNotIn(name, OF_VALUES, name)
        values = {target.id for name, node in walk(ast.ClassDef) for each in node.body if isinstance(each, ast.Assign)
                  for target in each.targets}
        self.assertEqual(values & (methods | properties | {node.attr for node in stored}), set())
        known = {node.attr for node in stored} | methods | properties | values | METHODS
        for name, node in walk(ast.Attribute):
            self.assertIn(node.attr, known | {"from_iterable"}, (name, node.lineno))

    def test_what_passes_by_is_iterated_at_once(self):
        generators = {node.name for name, node in walk(ast.FunctionDef)
                      if any(isinstance(each, (ast.Yield, ast.YieldFrom)) for each in ast.walk(node))}
        for name, tree in trees():
            once = iterated_at_once(tree)
            for node in ast.walk(tree):
                if called_name(node) in PASSING | generators:
                    self.assertIn(node, once, (name, node.lineno))

    def test_iterating_over_objects(self):
        """An object that is iterated over gives what an attribute gives, in one statement."""
        given = []
        for name, node in walk(ast.FunctionDef):
            if node.name == "__iter__":
                body = node.body[1:] if isinstance(node.body[0], ast.Expr) else node.body
                self.assertEqual([type(each) for each in body], [ast.Return], name)
                self.assertEqual(called_name(body[0].value), "iter")
                self.assertIsInstance(body[0].value.args[0], ast.Attribute)
                given.append(body[0].value)
        self.assertEqual(len([node for name, node in walk(ast.Call) if called_name(node) == "iter"]), len(given))
        if given:
            names = {each.name for name, node in walk(ast.ImportFrom) for each in node.names}
            self.assertEqual(names & LIBRARY["itertools"], set())

    def test_properties_give_what_is_stored(self):
        for name, node in walk(ast.FunctionDef):
            if [mark.id for mark in node.decorator_list] == ["property"]:
                self.assertEqual([type(each) for each in node.body], [ast.Expr, ast.Return], (name, node.name))
                called = {called_name(each) for each in ast.walk(node)} - {None}
                self.assertLessEqual(called, {"len"}, (name, node.name))

    def test_loops_do_not_change_what_they_go_over(self):
        changing = set("append clear extend insert pop remove reverse setdefault update add discard".split())
        for name, node in walk(ast.For):
            over = {each.id for each in ast.walk(node.iter) if isinstance(each, ast.Name)}
            for call in ast.walk(node):
                if called_name(call) in changing and isinstance(call.func, ast.Attribute):
                    changed = getattr(call.func.value, "id", None)
                    self.assertNotIn(changed, over, (name, call.lineno))


if __name__ == "__main__":
    unittest.main()
