"""Checks the package against those rules of the language document that a short program can see.

It does not see all of them: the document is read besides.
"""

import ast
import builtins
import functools
import pathlib
import unittest
import warnings

PACKAGE = pathlib.Path(__file__).resolve().parent.parent / "answercut"
BUILTINS = set(
    "len range enumerate zip min max sum abs sorted reversed int str bool list tuple dict set isinstance ord repr any"
    " all divmod pow map iter next Exception ValueError TypeError KeyError IndexError LookupError ZeroDivisionError"
    " ArithmeticError OverflowError RuntimeError NotImplementedError AttributeError StopIteration NotImplemented"
    " super property staticmethod classmethod True False None".split()
)
LIBRARY = {
    "heapq": {"heappush", "heappop", "heapify", "heapreplace", "heappushpop"},
    "math": {"gcd", "lcm", "isqrt", "comb", "perm", "factorial"},
    "itertools": {"product", "combinations", "permutations", "chain", "accumulate", "pairwise", "islice", "zip_longest"},
    "collections": {"defaultdict", "deque"},
    "__future__": {"annotations"},
}
METHODS = set(
    "append clear copy count endswith extend find get index insert isalnum isalpha isdigit islower isspace isupper"
    " items join keys ljust lower lstrip partition pop remove replace reverse rfind rjust rpartition rsplit rstrip"
    " setdefault split splitlines startswith strip update upper values zfill bit_length sort add discard format"
    " appendleft popleft extendleft rotate capitalize isascii isdecimal removeprefix removesuffix rindex".split()
)
SPECIAL = set(
    "__init__ __eq__ __repr__ __str__ __len__ __enter__ __exit__ __call__ __iter__ __lt__ __le__ __gt__ __ge__ __ne__"
    " __bool__ __contains__ __getitem__ __setitem__".split()
)
BARRED = set(
    "register mro elements open input law version_info with_traceback add_note compile dir eval exec exit format"
    " globals hash help id license locals os print quit round type vars".split()
)
FORBIDDEN = (
    ast.AsyncFunctionDef, ast.AsyncFor, ast.AsyncWith, ast.Await, ast.Global, ast.Div, ast.MatMult, ast.Import,
)
PLAIN = (ast.Assign, ast.FunctionDef, ast.ClassDef, ast.ImportFrom)


def files():
    return sorted(path for path in PACKAGE.rglob("*") if path.is_file() and "__pycache__" not in path.parts)


@functools.cache
def trees():
    return [(path, ast.parse(path.read_text(encoding="utf-8"))) for path in files()]


@functools.cache
def nodes(kind):
    return [(path, node) for path, tree in trees() for node in ast.walk(tree) if isinstance(node, kind)]


@functools.cache
def bound_names():
    found = []
    for path, node in nodes((ast.FunctionDef, ast.ClassDef, ast.arg, ast.Name, ast.ExceptHandler)):
        if isinstance(node, ast.arg):
            found.append((path, node, node.arg))
        elif isinstance(node, ast.Name):
            if isinstance(node.ctx, ast.Store):
                found.append((path, node, node.id))
        elif node.name is not None:
            found.append((path, node, node.name))
    return found


def called(node):
    return node.func.id if isinstance(node.func, ast.Name) else None


def is_set(node):
    return isinstance(node, (ast.Set, ast.SetComp)) or isinstance(node, ast.Call) and called(node) in {"set", "frozenset"}


class LanguageTest(unittest.TestCase):
    def none(self, found):
        self.assertEqual([f"{path.name}:{getattr(node, 'lineno', node)} {why}" for path, node, why in found], [])

    def test_files(self):
        self.assertNotEqual(files(), [])
        self.none([(path, 1, "L1") for path in files() if path.suffix != ".py" or path.name != path.name.lower()])

    def test_lines(self):
        for path in files():
            lines = path.read_text(encoding="utf-8").split("\n")
            self.assertLess(len(lines), 401, path.name)
            wrong = [at for at, line in enumerate(lines, 1) if len(line) > 120 or not all(" " <= c <= "~" for c in line)]
            self.assertEqual(wrong, [], path.name)

    def test_no_warning(self):
        with warnings.catch_warnings():
            warnings.simplefilter("error")
            for path in files():
                compile(path.read_text(encoding="utf-8"), str(path), "exec")

    def test_functions_have_forty_lines_at_most(self):
        found = nodes(ast.FunctionDef)
        self.none([(path, node, "L10") for path, node in found if node.end_lineno - node.lineno >= 40])

    def test_module_level(self):
        wrong = []
        for path, tree in trees():
            for at, node in enumerate(tree.body):
                docstring = at == 0 and isinstance(node, ast.Expr) and isinstance(node.value, ast.Constant)
                if not docstring and not isinstance(node, PLAIN):
                    wrong.append((path, node, "L3"))
        self.none(wrong)

    def test_imports(self):
        wrong = []
        for path, node in nodes(ast.ImportFrom):
            names = {alias.name for alias in node.names}
            if node.level or any(alias.asname for alias in node.names):
                wrong.append((path, node, "L2"))
            elif node.module.split(".")[0] == PACKAGE.name:
                source = PACKAGE.parent.joinpath(*node.module.split(".")).with_suffix(".py")
                here = {bound for other, _, bound in bound_names() if other == source}
                if not names <= here:
                    wrong.append((path, node, "L16"))
            elif not names <= LIBRARY.get(node.module, set()):
                wrong.append((path, node, "L2"))
        self.none(wrong)

    def test_forbidden_statements_and_signs(self):
        self.none([(path, node, type(node).__name__) for path, node in nodes(FORBIDDEN) if hasattr(node, "lineno")])
        signs = [(path, node) for path, node in nodes((ast.BinOp, ast.AugAssign)) if isinstance(node.op, FORBIDDEN)]
        self.none([(path, node, "L7") for path, node in signs])
        self.none([(path, node, "L7") for path, node in nodes(ast.Constant) if isinstance(node.value, (float, complex))])

    def test_decorators(self):
        found = nodes((ast.FunctionDef, ast.ClassDef))
        allowed = {"property", "staticmethod", "classmethod"}
        for path, node in found:
            for decorator in node.decorator_list:
                setter = isinstance(decorator, ast.Attribute) and decorator.attr == "setter"
                named = isinstance(decorator, ast.Name) and decorator.id in allowed
                self.assertTrue(setter or named, f"{path.name}:{node.lineno} L4")

    def test_builtins(self):
        names = [(path, node) for path, node in nodes(ast.Name) if hasattr(builtins, node.id)]
        self.none([(path, node, f"L8 {node.id}") for path, node in names if node.id not in BUILTINS])
        taken = BARRED | set(dir(builtins)) - SPECIAL
        bound = [told for told in bound_names() if told[2] in taken]
        self.none([(path, node, f"L15 {name}") for path, node, name in bound])

    def test_plain_names(self):
        wrong = [told for told in bound_names() if told[2].startswith("__") and told[2] not in SPECIAL]
        self.none([(path, node, f"L12 {name}") for path, node, name in wrong])
        read = [(path, node) for path, node in nodes(ast.Name) if node.id == "_" and isinstance(node.ctx, ast.Load)]
        self.none([(path, node, "L12 _") for path, node in read])

    def test_methods(self):
        own = {node.name for _, node in nodes(ast.FunctionDef)} | {node.name for _, node in nodes(ast.ClassDef)}
        called = [(path, node.func) for path, node in nodes(ast.Call) if isinstance(node.func, ast.Attribute)]
        wrong = [(path, node) for path, node in called if node.attr not in METHODS | own]
        self.none([(path, node, f"L25 {node.attr}") for path, node in wrong])

    def test_no_class_or_import_is_hidden(self):
        for path, tree in trees():
            kept = {node.name for node in tree.body if isinstance(node, ast.ClassDef)}
            kept |= {alias.name for node in ast.walk(tree) if isinstance(node, ast.ImportFrom) for alias in node.names}
            inner = [node for node in ast.walk(tree) if isinstance(node, (ast.arg, ast.Name))]
            names = {node.arg if isinstance(node, ast.arg) else node.id for node in inner
                     if isinstance(node, ast.arg) or isinstance(node.ctx, ast.Store)}
            self.assertEqual(kept & names, set(), f"{path.name} L15")

    def test_sets_stand_only_where_they_may(self):
        wrong = []
        for path, tree in trees():
            above = {child: node for node in ast.walk(tree) for child in ast.iter_child_nodes(node)}
            for node in ast.walk(tree):
                if not is_set(node):
                    continue
                around = above[node]
                sorted_or_counted = isinstance(around, ast.Call) and called(around) in {"sorted", "len"}
                compared = isinstance(around, ast.Compare) and all(
                    is_set(side) or isinstance(op, (ast.In, ast.NotIn))
                    for side, op in zip([around.left, *around.comparators][1:], around.ops)
                )
                stored = isinstance(around, ast.Assign) and isinstance(around.targets[0], ast.Name)
                if not (sorted_or_counted and not around.keywords or compared or stored):
                    wrong.append((path, node, "L24"))
        self.none(wrong)

    def test_no_generator_expressions(self):
        # A class with __eq__ or __len__, as later stages have them, bars most of them (L7).
        self.none([(path, node, "L7") for path, node in nodes((ast.GeneratorExp, ast.Yield, ast.YieldFrom))])

    def test_is_stands_beside_none_true_and_false(self):
        wrong = []
        for path, node in nodes(ast.Compare):
            for op, side in zip(node.ops, node.comparators):
                constant = isinstance(side, ast.Constant) and side.value in (None, True, False)
                if isinstance(op, (ast.Is, ast.IsNot)) and not constant:
                    wrong.append((path, node, "L20"))
        self.none(wrong)

    def test_functions_of_a_table_have_a_name_first(self):
        found = [(path, node) for path, node in nodes(ast.Call) if isinstance(node.func, (ast.Subscript, ast.Call))]
        self.none([(path, node, "L3") for path, node in found])

    def test_no_sort(self):
        self.none([(path, node, "L25") for path, node in nodes(ast.Attribute) if node.attr == "sort"])

    def test_errors_are_created_where_they_are_raised(self):
        wrong = []
        for path, node in nodes(ast.Raise):
            if node.exc is not None and not (isinstance(node.exc, ast.Call) and isinstance(node.exc.func, ast.Name)):
                wrong.append((path, node, "L19"))
        self.none(wrong)

    def test_no_percent_sign_in_strings(self):
        found = [(path, node) for path, node in nodes(ast.Constant) if isinstance(node.value, str)]
        self.none([(path, node, "L27") for path, node in found if chr(37) in node.value])

    def test_loops_do_not_change_what_they_go_over(self):
        changing = {"append", "pop", "remove", "insert", "extend", "clear", "update", "setdefault", "reverse"}
        wrong = []
        for path, loop in nodes(ast.For):
            over = ast.unparse(loop.iter)
            for node in ast.walk(ast.Module(loop.body, [])):
                call = isinstance(node, ast.Call) and isinstance(node.func, ast.Attribute) and node.func.attr in changing
                if call and ast.unparse(node.func.value) == over:
                    wrong.append((path, node, "L23"))
        self.none(wrong)

    def test_no_name_is_a_method_and_an_attribute_of_a_class(self):
        for path, kind in nodes(ast.ClassDef):
            methods = {node.name for node in kind.body if isinstance(node, ast.FunctionDef)}
            stored = {node.attr for node in ast.walk(kind) if isinstance(node, ast.Attribute)
                      and isinstance(node.ctx, ast.Store)}
            self.assertEqual(methods & stored, set(), f"{path.name}:{kind.name} L18")

    def test_len_and_eq_have_plain_forms(self):
        found = [(path, node) for path, node in nodes(ast.FunctionDef) if node.name in ("__len__", "__eq__")]
        for path, node in found:
            last = node.body[-1]
            self.assertEqual(len(node.body), 1, f"{path.name}:{node.lineno} L28")
            self.assertIsInstance(last, ast.Return)
            if node.name == "__len__":
                self.assertTrue(isinstance(last.value, ast.Call) and called(last.value) == "len", f"{path.name} L28")
            else:
                self.assertIsInstance(last.value, ast.BoolOp)
                self.assertEqual(called(last.value.values[0]), "isinstance")

    def test_module_level_tables_are_read_and_copied_alone(self):
        wrong = []
        tables = {
            target.id for _, tree in trees() for node in tree.body if isinstance(node, ast.Assign)
            for target in node.targets if isinstance(node.value, (ast.Dict, ast.List))
        }
        for path, tree in trees():
            above = {child: node for node in ast.walk(tree) for child in ast.iter_child_nodes(node)}
            for node in ast.walk(tree):
                if not (isinstance(node, ast.Name) and node.id in tables and isinstance(node.ctx, ast.Load)):
                    continue
                around = above[node]
                read = isinstance(around, ast.Subscript) and isinstance(around.ctx, ast.Load) and around.value is node
                asked = isinstance(around, ast.Compare) and node in around.comparators
                copied = isinstance(around, ast.Call) and called(around) in {"dict", "list", "len"}
                if not (read or asked or copied):
                    wrong.append((path, node, f"L15 {node.id}"))
        self.none(wrong)
        values = [(path, node.value) for path, tree in trees() for node in tree.body if isinstance(node, ast.Assign)]
        nested = [(path, part) for path, value in values for part in ast.walk(value) if part is not value]
        self.none([(path, node, "L15") for path, node in nested if isinstance(node, (ast.Dict, ast.List, ast.Set))])

    def test_lambdas_and_keywords_of_builtins(self):
        allowed = {"sorted": {"key", "reverse"}, "min": {"key", "default"}, "max": {"key", "default"}, "sum": {"start"},
                   "enumerate": {"start"}, "zip": {"strict"}}
        wrong = []
        for path, node in nodes(ast.Call):
            if called(node) in BUILTINS and {word.arg for word in node.keywords} - allowed.get(called(node), set()):
                wrong.append((path, node, "L22"))
        keys = {word.value for _, node in nodes(ast.Call) for word in node.keywords}
        wrong += [(path, node, "L4 lambda") for path, node in nodes(ast.Lambda) if node not in keys]
        self.none(wrong)

    def test_comments_and_docstrings(self):
        for path, tree in trees():
            self.assertIsNotNone(ast.get_docstring(tree), path.name)
            public = [node for node in ast.walk(tree) if isinstance(node, (ast.FunctionDef, ast.ClassDef))]
            bare = [node for node in public if not node.name.startswith("_") and ast.get_docstring(node) is None]
            self.none([(path, node, "docstring") for node in bare])

    def test_strings(self):
        wrong = [(path, node, "L27") for path, node in nodes(ast.Constant)
                 if isinstance(node.value, str) and any(not (" " <= c <= "~" or c == "\n") for c in node.value)]
        self.none(wrong)


if __name__ == "__main__":
    unittest.main()
