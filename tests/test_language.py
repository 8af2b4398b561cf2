"""The rules of the language that a test can see, and points 0.2 and 0.3 as to the files.

A rule that is not looked at here holds all the same. The numbers are those of LANGUAGE.md.
"""

import ast
import builtins
import os
import unittest

FOLDER = os.path.join(os.path.dirname(os.path.dirname(os.path.abspath(__file__))), "signoff")

# The modules of the document in their order; what is not listed there stands before what needs it.
ORDER = ("errors tokens trees parser printer tables diagrams circuits meaning decks wires corners "
         "waveforms runs arrivals settled clocked clockruns schedules flow reports rewrites sizing "
         "records sessions").split()
LIBRARY = {
    "heapq": {"heappush", "heappop", "heapify", "heapreplace", "heappushpop"},
    "math": {"gcd", "lcm", "isqrt", "comb", "perm", "factorial"},
    "itertools": {"product", "combinations", "permutations", "chain", "accumulate", "pairwise",
                  "islice", "zip_longest"},
    "collections": {"defaultdict"},
}
BUILTINS = set(
    "len range enumerate zip min max sum abs sorted reversed int str bool bytes list tuple dict set "
    "frozenset isinstance ord repr any all divmod pow getattr hasattr setattr iter next map super "
    "property staticmethod classmethod Exception ValueError TypeError KeyError IndexError LookupError "
    "ZeroDivisionError ArithmeticError OverflowError RuntimeError NotImplementedError AttributeError "
    "StopIteration NotImplemented".split())
# The doctest module gives `_` to builtins when an example is run.
BUILTIN_NAMES = set(vars(builtins)) - {"_"}
BARRED = set(
    "register mro elements open input law version_info with_traceback add_note attrgetter breakpoint "
    "builtins compile copyright credits delattr dir eval exec exit gc globals help id importlib license "
    "locals methodcaller os quit type vars sys".split())
STATEMENTS = (
    ast.Assign, ast.AugAssign, ast.AnnAssign, ast.If, ast.While, ast.For, ast.Return, ast.Break,
    ast.Continue, ast.Pass, ast.Raise, ast.Assert, ast.Delete, ast.Nonlocal, ast.Match, ast.With,
    ast.Try, ast.Expr, ast.FunctionDef, ast.ClassDef, ast.ImportFrom)
DECORATORS = ("property", "staticmethod", "classmethod")
PLAIN = (ast.Constant, ast.Tuple, ast.List, ast.Dict, ast.Name, ast.UnaryOp, ast.USub, ast.Load)


def files():
    return sorted(title for title in os.listdir(FOLDER) if title != "__pycache__")


def text_of(title):
    with open(os.path.join(FOLDER, title), encoding="utf-8", newline="") as handle:
        return handle.read()


def docstrings(tree):
    found = set()
    for node in ast.walk(tree):
        if isinstance(node, (ast.Module, ast.ClassDef, ast.FunctionDef)) and node.body:
            first = node.body[0]
            if isinstance(first, ast.Expr) and isinstance(first.value, ast.Constant):
                found.add(first.value)
    return found


def bound_names(tree):
    for node in ast.walk(tree):
        if isinstance(node, ast.Name) and not isinstance(node.ctx, ast.Load):
            yield node.id
        elif isinstance(node, ast.arg):
            yield node.arg
        elif isinstance(node, (ast.FunctionDef, ast.ClassDef)):
            yield node.name


class Files(unittest.TestCase):
    title = ""

    def _formatMessage(self, msg, standardMsg):
        return super()._formatMessage(f"{self.title}: {msg}", standardMsg)

    def each(self):
        for title in files():
            self.title = title
            text = text_of(title)
            yield title, text, ast.parse(text)

    def each_node(self, *kinds):
        for _, _, tree in self.each():
            for node in ast.walk(tree):
                if isinstance(node, kinds):
                    yield node

    def test_the_folder(self):
        self.assertIn("__init__.py", files())
        for title in files():
            self.assertRegex(title, r"\A[a-z][a-z0-9_]*\.py\Z|\A__init__\.py\Z", "L1")

    def test_sizes_and_characters(self):
        for _, text, tree in self.each():
            self.assertTrue(all(c == "\n" or " " <= c <= "~" for c in text), "L14")
            lines = text.split("\n")
            self.assertLessEqual(len(lines), 400, "L10")
            self.assertLessEqual(max(len(line) for line in lines), 120, "L10")
            for node in ast.walk(tree):
                if isinstance(node, ast.FunctionDef):
                    self.assertLessEqual(node.end_lineno - node.lineno + 1, 40, f"L10 {node.name}")

    def test_imports(self):
        trees = {title[:-3]: tree for title, _, tree in self.each()}
        for title, tree in trees.items():
            for node in ast.walk(tree):
                if isinstance(node, ast.ImportFrom):
                    self.check_import(title, node, trees)
                self.assertNotIsInstance(node, ast.Import, "L16")

    def check_import(self, title, node, trees):
        self.assertEqual(node.level, 0, "L2")
        names = [alias.name for alias in node.names]
        self.assertTrue(all(alias.asname is None for alias in node.names), "L2")
        if node.module in LIBRARY:
            self.assertLessEqual(set(names), LIBRARY[node.module], "L2")
            return
        package, _, module = node.module.partition(".")
        self.assertEqual(package, "signoff", "L2")
        defined = {part.name for part in trees[module].body
                   if isinstance(part, (ast.FunctionDef, ast.ClassDef))}
        for part in trees[module].body:
            if isinstance(part, ast.Assign):
                defined.update(target.id for target in part.targets)
        self.assertLessEqual(set(names), defined, "L16")
        if title in ORDER and module in ORDER:
            self.assertLess(ORDER.index(module), ORDER.index(title), "point 0.3")

    def test_module_level(self):
        for _, _, tree in self.each():
            seen = set()
            for node in tree.body:
                if isinstance(node, ast.Assign):
                    self.assertEqual([type(target) for target in node.targets], [ast.Name], "L3")
                    for part in ast.walk(node.value):
                        self.assertIsInstance(part, PLAIN, "L3")
                    names = [node.targets[0].id]
                elif isinstance(node, (ast.FunctionDef, ast.ClassDef)):
                    names = [node.name]
                elif isinstance(node, ast.ImportFrom):
                    names = [alias.name for alias in node.names]
                else:
                    self.assertIsInstance(node, ast.Expr, "L3")
                    self.assertIsInstance(node.value, ast.Constant, "L3")
                    names = []
                self.assertFalse(seen & set(names), "L15")
                seen.update(names)
                for part in ast.walk(node):
                    if isinstance(part, ast.arg):
                        self.assertNotIn(part.arg, seen, "L15")

    def test_statements(self):
        for node in self.each_node(ast.stmt):
            self.assertIsInstance(node, STATEMENTS, "L6")
            for decorator in getattr(node, "decorator_list", ()):
                plain = isinstance(decorator, ast.Name) and decorator.id in DECORATORS
                setter = isinstance(decorator, ast.Attribute) and decorator.attr == "setter"
                self.assertTrue(plain or setter, "L4")

    def test_expressions(self):
        for node in self.each_node(ast.expr, ast.operator):
            self.assertNotIsInstance(node, (ast.Div, ast.MatMult, ast.Await), "L7")
            if isinstance(node, ast.Constant):
                self.assertIn(type(node.value), (int, str, bytes, bool, type(None), type(...)), "L7")
            if isinstance(node, ast.Compare):
                sides = [node.left] + node.comparators
                for at, sign in enumerate(node.ops):
                    if isinstance(sign, (ast.Is, ast.IsNot)):
                        pair = sides[at:at + 2]
                        self.assertTrue(any(isinstance(side, ast.Constant) for side in pair), "L20")

    def test_iterated_sets(self):
        for node in self.each_node(ast.For, ast.comprehension):
            self.assertNotIsInstance(node.iter, (ast.Set, ast.SetComp), "L24")
            if isinstance(node.iter, ast.Call) and isinstance(node.iter.func, ast.Name):
                self.assertNotIn(node.iter.func.id, ("set", "frozenset"), "L24")

    def test_strings(self):
        for _, _, tree in self.each():
            for node in ast.walk(tree):
                if isinstance(node, ast.Constant) and isinstance(node.value, str):
                    self.assertNotIn("%", node.value, "L27")
                    if node not in docstrings(tree):
                        self.assertNotRegex(node.value, r"\b(type|typing|enum|namedtuple)\b", "L17")

    def test_names(self):
        for title, _, tree in self.each():
            for found in bound_names(tree):
                self.assertNotIn(found, BARRED, "L17")
                self.assertNotRegex(found, r"\A_(wall|pe_|dcw_|enum_|cm_|twin_re_|lay_|law_|stub_|sre)", "L12")
                self.assertNotRegex(
                    found, r"\A_(cold|tuplegetter|outside|record|written_out|member_names)[0-9_]*\Z", "L12")
            for node in ast.walk(tree):
                if isinstance(node, ast.Name):
                    if node.id in BUILTIN_NAMES:
                        self.assertIn(node.id, BUILTINS, "L8")
                        self.assertIsInstance(node.ctx, ast.Load, "L8")
                    self.assertFalse(node.id.startswith("__"), "L8")
                elif isinstance(node, ast.arg):
                    self.assertNotIn(node.arg, BUILTIN_NAMES, "L15")

    def test_names_of_imports_and_classes(self):
        for _, _, tree in self.each():
            taken = {alias.name for node in tree.body if isinstance(node, ast.ImportFrom) for alias in node.names}
            taken |= {node.name for node in tree.body if isinstance(node, ast.ClassDef)}
            for node in ast.walk(tree):
                if isinstance(node, ast.arg):
                    self.assertNotIn(node.arg, taken, "L15")
                elif isinstance(node, ast.Name) and not isinstance(node.ctx, ast.Load):
                    self.assertNotIn(node.id, taken, "L15")

    def test_methods_and_attributes(self):
        methods, stored, generators, every = set(), set(), [], []
        for _, _, tree in self.each():
            for node in ast.walk(tree):
                if isinstance(node, ast.ClassDef):
                    own = {part.name for part in node.body if isinstance(part, ast.FunctionDef)}
                    kept = {part.attr for part in ast.walk(node)
                            if isinstance(part, ast.Attribute) and isinstance(part.ctx, ast.Store)}
                    self.assertFalse(own & kept, f"L18 {node.name}")
                    methods |= own
                    stored |= kept
                if isinstance(node, ast.FunctionDef):
                    every.append(node.name)
                    if any(isinstance(part, (ast.Yield, ast.YieldFrom)) for part in ast.walk(node)):
                        generators.append(node.name)
        # Narrower than L18: no name is both, in different classes neither.
        self.assertFalse(methods & stored, "L18")
        self.assertFalse((methods | stored) & {"add", "discard", "sort", "keys", "format"}, "L24, L25, L26")
        for name in generators:
            self.assertEqual(every.count(name), 1, "L23")

    def test_super(self):
        calls = 0
        for node in self.each_node(ast.Attribute):
            made = node.value
            if isinstance(made, ast.Call) and isinstance(made.func, ast.Name) and made.func.id == "super":
                self.assertEqual((made.args, made.keywords), ([], []), "L5")
                self.assertTrue(node.attr == "__init__" or not node.attr.startswith("__"), "L5")
                calls += 1
        names = [node for node in self.each_node(ast.Name) if node.id == "super"]
        self.assertEqual(len(names), calls, "L5")

    def test_stars_in_calls(self):
        plain = (ast.Name, ast.Attribute, ast.List, ast.Tuple, ast.Load, ast.Constant)
        for node in self.each_node(ast.Call):
            for part in node.args:
                if isinstance(part, ast.Starred):
                    for inner in ast.walk(part.value):
                        self.assertIsInstance(inner, plain, "L7")

    def test_errors(self):
        for node in self.each_node(ast.Raise):
            if node.exc is not None:
                self.assertIsInstance(node.exc, ast.Call, "L19")
        for node in self.each_node(ast.ExceptHandler):
            self.assertIsNotNone(node.type, "L6")
            self.assertNotIn(getattr(node.type, "id", ""), ("Exception", "TypeError", "RuntimeError"), "L19")

    def test_exponents(self):
        for node in self.each_node(ast.BinOp):
            if isinstance(node.op, ast.Pow):
                self.assertIsInstance(node.right, ast.Constant, "L27")

    def test_keywords_of_builtins(self):
        allowed = {"sorted": {"key", "reverse"}, "min": {"key", "default"}, "max": {"key", "default"},
                   "sum": {"start"}, "enumerate": {"start"}, "zip": {"strict"}}
        for node in self.each_node(ast.Call):
            if isinstance(node.func, ast.Name) and node.func.id in BUILTINS:
                keys = {keyword.arg for keyword in node.keywords}
                self.assertLessEqual(keys, allowed.get(node.func.id, set()), "L22")


if __name__ == "__main__":
    unittest.main()
