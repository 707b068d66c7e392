"""The rules of ../shared/LANGUAGE.md that a look at the files can tell; some are kept more strictly than told."""

import ast
import builtins
import os
import re
import unittest

import pulledrooms

FOLDER = os.path.dirname(pulledrooms.__file__)
LIBRARY = {"heapq": {"heappush", "heappop"}, "math": {"gcd", "lcm", "isqrt", "comb", "perm", "factorial"},
           "itertools": {"permutations"}}
LET = set("""len range enumerate zip min max sum abs sorted reversed int str bool bytes list tuple dict isinstance
ord repr any all divmod Exception ValueError TypeError KeyError IndexError LookupError ZeroDivisionError ArithmeticError
OverflowError RuntimeError NotImplementedError AttributeError super""".split())
METHODS = set("""append clear copy count endswith extend find get index insert isalnum isalpha isdigit islower isspace
isupper items join keys ljust lower lstrip partition pop remove replace reverse rfind rjust rpartition rsplit rstrip
setdefault split splitlines startswith strip update upper values zfill bit_length removeprefix removesuffix
__init__""".split())
BARRED_NODES = (
    ast.GeneratorExp, ast.Set, ast.SetComp, ast.Global, ast.AsyncFunctionDef, ast.Div, ast.Pow, ast.Lambda,
    ast.With, ast.Starred, ast.Yield, ast.YieldFrom, ast.Match, ast.Nonlocal, ast.NamedExpr, ast.Import, ast.Assert,
    ast.AnnAssign, ast.Delete,
)
BARRED_WORDS = set("""register mro elements open input law version_info with_traceback add_note attrgetter breakpoint
builtins compile copyright credits delattr dir eval exec exit gc getattr globals hasattr help id importlib license
locals methodcaller os quit setattr type vars sys typing enum Enum Flag Generic Protocol ABC namedtuple iter next map
filter format hash hex oct bin chr set frozenset print object property staticmethod classmethod""".split())


def sources():
    for name in sorted(os.listdir(FOLDER)):
        if name != "__pycache__":
            with open(os.path.join(FOLDER, name), encoding="utf-8", newline="") as file:
                yield name, file.read()


def bound_names(tree):
    """The names that functions of the file give to parameters and local variables."""
    for node in ast.walk(tree):
        if isinstance(node, ast.arg):
            yield node.arg
        if isinstance(node, ast.FunctionDef):
            for part in ast.walk(node):
                if isinstance(part, ast.Name) and isinstance(part.ctx, ast.Store):
                    yield part.id


class Language(unittest.TestCase):
    def each(self):
        return [(name, ast.parse(text)) for name, text in sources()]

    def test_files(self):
        for name, text in sources():
            with self.subTest(name=name):
                self.assertRegex(name, r"^[a-z_]+\.py$")
                self.assertRegex(text, r"\A[ -~\n]*\Z")
                self.assertLessEqual(text.count("\n"), 399)
                self.assertLessEqual(max(len(line) for line in text.split("\n")), 120)

    def test_module_level(self):
        for name, tree in self.each():
            kinds = [type(node) for node in tree.body[1:]]
            with self.subTest(name=name):
                self.assertIsInstance(tree.body[0], ast.Expr)
                self.assertLessEqual(set(kinds), {ast.ImportFrom, ast.Assign, ast.FunctionDef, ast.ClassDef})
                imports = kinds.count(ast.ImportFrom)
                self.assertEqual(kinds[:imports], [ast.ImportFrom] * imports)
                bound = [node.name for node in tree.body if hasattr(node, "name")]
                bound += [alias.name for node in tree.body if isinstance(node, ast.ImportFrom) for alias in node.names]
                bound += [node.targets[0].id for node in tree.body if isinstance(node, ast.Assign)]
                self.assertEqual(len(bound), len(set(bound)))
                self.assertFalse(set(bound) & set(bound_names(tree)))

    def test_imports(self):
        for name, tree in self.each():
            used = {node.id for node in ast.walk(tree) if isinstance(node, ast.Name)}
            for node in ast.walk(tree):
                if isinstance(node, ast.ImportFrom):
                    with self.subTest(name=name, module=node.module):
                        words = {alias.name for alias in node.names}
                        self.assertFalse([alias for alias in node.names if alias.asname])
                        self.assertTrue(node.module.startswith("pulledrooms.") or words <= LIBRARY[node.module])
                        self.assertLessEqual(words, used)

    def test_functions_are_short_and_plain(self):
        for name, tree in self.each():
            for node in ast.walk(tree):
                if isinstance(node, (ast.FunctionDef, ast.ClassDef)):
                    with self.subTest(name=name, function=node.name):
                        self.assertEqual(node.decorator_list, [])
                if isinstance(node, ast.FunctionDef):
                    with self.subTest(name=name, function=node.name):
                        self.assertLessEqual(node.end_lineno - node.lineno + 1, 40)
                        self.assertTrue(not node.name.startswith("__")
                                        or node.name in ("__init__", "__eq__", "__len__"))

    def test_nodes(self):
        for name, tree in self.each():
            for node in ast.walk(tree):
                with self.subTest(name=name, line=getattr(node, "lineno", None)):
                    self.assertNotIsInstance(node, BARRED_NODES)
                    if isinstance(node, ast.Compare) and any(isinstance(op, (ast.Is, ast.IsNot)) for op in node.ops):
                        self.assertIsInstance(node.comparators[0], ast.Constant)
                    if isinstance(node, ast.Constant) and isinstance(node.value, str):
                        self.assertNotIn("%", node.value)
                    self.assertFalse(isinstance(node, ast.Constant) and isinstance(node.value, (float, bytes)))

    def test_only_own_errors_are_caught(self):
        for name, tree in self.each():
            for node in ast.walk(tree):
                if isinstance(node, ast.Try):
                    with self.subTest(name=name, line=node.lineno):
                        self.assertEqual([handler.type.id for handler in node.handlers], ["PullError"])
                        self.assertEqual((node.handlers[0].name, node.orelse, node.finalbody), (None, [], []))

    def test_names(self):
        for name, tree in self.each():
            bound = set(bound_names(tree)) | {node.name for node in ast.walk(tree) if isinstance(node, ast.FunctionDef)}
            with self.subTest(name=name):
                self.assertFalse(bound & set(dir(builtins)))
                self.assertFalse(bound & BARRED_WORDS)
                words = {node.id for node in ast.walk(tree) if isinstance(node, ast.Name)}
                self.assertFalse(words & set(dir(builtins)) - LET)

    def test_methods(self):
        own = {node.name for _, tree in self.each() for part in ast.walk(tree) if isinstance(part, ast.ClassDef)
               for node in part.body if isinstance(node, ast.FunctionDef)}
        for name, tree in self.each():
            for node in ast.walk(tree):
                if isinstance(node, ast.Call) and isinstance(node.func, ast.Attribute):
                    with self.subTest(name=name, line=node.lineno):
                        self.assertIn(node.func.attr, METHODS | own)

    def test_strings_hold_no_barred_word(self):
        for name, tree in self.each():
            owners = [node for node in ast.walk(tree) if isinstance(node, (ast.Module, ast.FunctionDef, ast.ClassDef))]
            told = [node.body[0].value for node in owners if isinstance(node.body[0], ast.Expr)]
            for node in ast.walk(tree):
                if isinstance(node, ast.Constant) and isinstance(node.value, str) and node not in told:
                    with self.subTest(name=name, text=node.value):
                        self.assertFalse(set(re.findall(r"\w+", node.value)) & {"type", "typing", "enum"})
                        self.assertFalse(node.value.startswith("__"))


if __name__ == "__main__":
    unittest.main()
