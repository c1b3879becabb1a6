"""Rules of the language subset that can be seen in the code: not all of them, but those that slip in easily."""

import ast
import builtins
import os
import re
import unittest

FOLDER = os.path.join(os.path.dirname(__file__), "..", "toldpushes")

LIBRARY = {"math": {"gcd", "lcm", "isqrt", "comb", "perm", "factorial"}, "itertools": {"product", "combinations", "permutations"}}

BUILTINS = set("""len range enumerate zip min max sum abs sorted reversed int str bool list tuple dict set isinstance ord repr
    any all divmod Exception ValueError TypeError KeyError IndexError LookupError ZeroDivisionError ArithmeticError
    OverflowError RuntimeError NotImplementedError AttributeError StopIteration NotImplemented property staticmethod
    classmethod super""".split())

METHODS = set("""append clear copy count endswith extend find get index insert isalnum isalpha isdigit islower isspace isupper
    items join keys ljust lower lstrip partition pop remove replace reverse rfind rjust rpartition rsplit rstrip setdefault
    split splitlines startswith strip update upper values zfill bit_length add discard""".split())

DOUBLE = set("""__init__ __eq__ __repr__ __str__ __len__ __enter__ __exit__ __call__ __iter__ __add__ __radd__ __sub__ __rsub__
    __mul__ __rmul__ __neg__ __contains__ __getitem__""".split())

BARRED_NODES = (ast.Global, ast.AsyncFunctionDef, ast.AsyncFor, ast.AsyncWith, ast.Await, ast.Div, ast.GeneratorExp, ast.AnnAssign,
                ast.Delete, ast.Yield, ast.YieldFrom, ast.NamedExpr)

BARRED_NAMES = set("""register mro elements open input law version_info with_traceback add_note type typing enum Enum Generic
    Protocol ABC namedtuple NamedTuple TypedDict""".split())


# What was last shown stands under "_" among the builtins, as soon as something was shown.
TAKEN = set(dir(builtins)) - {"_"}


def files():
    """The package's files: their names without .py, their texts and their trees."""
    found = {}
    for name in sorted(os.listdir(FOLDER)):
        if name.endswith(".py"):
            with open(os.path.join(FOLDER, name), encoding="utf-8", newline="") as kept:
                text = kept.read()
            found[name[:-3]] = (text, ast.parse(text))
    return found


FILES = files()
NODES = [(name, node) for name, (_, tree) in FILES.items() for node in ast.walk(tree)]


def bound_at_top(tree):
    """All names that a file binds at module level, imports included."""
    found = []
    for row in tree.body:
        if isinstance(row, ast.ImportFrom):
            found += [part.asname or part.name for part in row.names]
        elif isinstance(row, (ast.FunctionDef, ast.ClassDef)):
            found.append(row.name)
        elif isinstance(row, ast.Assign):
            found += [target.id for target in row.targets]
    return found


def imported_files(tree):
    return [row.module.split(".")[1] for row in tree.body if isinstance(row, ast.ImportFrom) and row.module not in LIBRARY]


PROPERTIES = {node.name for _, node in NODES if isinstance(node, ast.FunctionDef)
              and any(isinstance(over, ast.Name) and over.id == "property" for over in node.decorator_list)}

ERRORS = set(bound_at_top(FILES["errors"][1]))


def is_plain_star(node):
    """Whether this may stand behind a star: a name, an attribute off a name, a literal, or a display of these."""
    if isinstance(node, (ast.List, ast.Tuple)):
        return all(is_plain_star(part) for part in node.elts)
    if isinstance(node, ast.Dict):
        return all(part is not None and is_plain_star(part) for part in node.keys + node.values)
    if isinstance(node, ast.Attribute):
        return isinstance(node.value, ast.Name) and node.attr not in PROPERTIES
    return isinstance(node, (ast.Name, ast.Constant))


def may_have_stars(called):
    """Whether a call of this may have stars: what is the package's own, passed or local, and max, min and zip."""
    if isinstance(called, ast.Name):
        return called.id in ("max", "min", "zip") or called.id not in TAKEN | ERRORS
    return isinstance(called, ast.Attribute) and called.attr not in METHODS


def is_call_with_wrong_stars(node):
    """Whether it is a call that has stars otherwise than rule L7 lets it."""
    if not isinstance(node, ast.Call):
        return False
    single = [part.value for part in node.args if isinstance(part, ast.Starred)]
    double = [part.value for part in node.keywords if part.arg is None]
    if not single and not double:
        return False
    rows = [part.value if isinstance(part, ast.Starred) else part for part in node.args]
    rows = rows if double else single
    late = [part for part in node.keywords if part.arg and any((there.lineno, there.col_offset) > (part.value.lineno,
            part.value.col_offset) for there in single)]
    return not (may_have_stars(node.func) and all(is_plain_star(part) for part in rows) and not late
                and all(isinstance(part, (ast.Name, ast.Attribute)) and is_plain_star(part) for part in double)
                and (not double or len(node.keywords) == 1))


def is_plain_value(node):
    """Whether it is a literal, or a list, tuple or dict of such and of names."""
    if isinstance(node, (ast.List, ast.Tuple)):
        return all(is_plain_value(part) for part in node.elts)
    if isinstance(node, ast.Dict):
        return all(part is not None and is_plain_value(part) for part in node.keys + node.values)
    if isinstance(node, ast.UnaryOp):
        return isinstance(node.op, ast.USub) and isinstance(node.operand, ast.Constant)
    return isinstance(node, (ast.Constant, ast.Name))


def is_short_lived(node):
    """Whether it is a call of zip, enumerate, reversed, or of items, keys or values."""
    if not isinstance(node, ast.Call):
        return False
    if isinstance(node.func, ast.Name):
        return node.func.id in ("zip", "enumerate", "reversed")
    return isinstance(node.func, ast.Attribute) and node.func.attr in ("items", "keys", "values")


def iterated_at_once(tree):
    """All that is iterated where it stands."""
    takers = "list tuple dict sorted sum any all enumerate zip min max".split()
    found = [node.iter for node in ast.walk(tree) if isinstance(node, (ast.For, ast.comprehension))]
    return found + [part for node in ast.walk(tree) if isinstance(node, ast.Call) and isinstance(node.func, ast.Name)
                    and node.func.id in takers for part in (node.args if node.func.id == "zip" else node.args[:1])]


class Files(unittest.TestCase):

    def test_names(self):
        for name in os.listdir(FOLDER):
            self.assertTrue(re.fullmatch(r"[a-z0-9_]+\.py|__pycache__", name), name)
        self.assertLessEqual(len(FILES), 100)

    def test_sizes_and_signs(self):
        for name, (text, _) in FILES.items():
            lines = text.split("\n")
            self.assertLessEqual(len(lines), 400, name)
            self.assertLessEqual(max(len(line) for line in lines), 120, name)
            self.assertEqual({sign for sign in text if not (" " <= sign <= "~" or sign == "\n")}, set(), name)
        for name, node in NODES:
            if isinstance(node, ast.FunctionDef):
                self.assertLessEqual(node.end_lineno - node.lineno + 1, 40, (name, node.name))

    def test_rows_at_top(self):
        for name, (_, tree) in FILES.items():
            rows = tree.body[1:]
            self.assertIsNotNone(ast.get_docstring(tree), name)
            for before, row in zip([None] + rows, rows):
                self.assertIsInstance(row, (ast.ImportFrom, ast.FunctionDef, ast.ClassDef, ast.Assign))
                if isinstance(row, ast.ImportFrom):
                    self.assertTrue(before is None or isinstance(before, ast.ImportFrom), name)

    def test_values_at_top(self):
        for name, (_, tree) in FILES.items():
            above = set()
            for row in tree.body:
                if isinstance(row, ast.FunctionDef):
                    above.add(row.name)
                if isinstance(row, ast.Assign):
                    self.assertEqual([type(target) for target in row.targets], [ast.Name], name)
                    self.assertTrue(is_plain_value(row.value), name)
                    # A table may have functions of its own file that stand above it; no list or dict lies within another.
                    self.assertLessEqual({part.id for part in ast.walk(row.value) if isinstance(part, ast.Name)}, above, name)
                    inner = [part for part in ast.walk(row.value) if isinstance(part, (ast.List, ast.Dict)) and part is not row.value]
                    self.assertEqual(inner, [], name)

    def test_imports(self):
        for name, node in NODES:
            self.assertNotIsInstance(node, ast.Import, name)
            if isinstance(node, ast.ImportFrom):
                self.assertEqual(node.level, 0)
                for part in node.names:
                    self.assertIsNone(part.asname)
                    if node.module in LIBRARY:
                        self.assertIn(part.name, LIBRARY[node.module])
                    else:
                        package, there = node.module.split(".")
                        self.assertEqual(package, "toldpushes")
                        rows = [row for row in FILES[there][1].body if not isinstance(row, ast.ImportFrom)]
                        self.assertIn(part.name, bound_at_top(ast.Module(rows, [])), (name, part.name))

    def test_imports_make_no_rings(self):
        left = {name: imported_files(tree) for name, (_, tree) in FILES.items()}
        while left:
            free = [name for name, wants in left.items() if not any(want in left for want in wants)]
            self.assertTrue(free, left)
            left = {name: wants for name, wants in left.items() if name not in free}


class Names(unittest.TestCase):

    def test_bound_once(self):
        for name, (_, tree) in FILES.items():
            found = bound_at_top(tree)
            self.assertEqual(len(set(found)), len(found), name)
            used = {node.id for node in ast.walk(tree) if isinstance(node, ast.Name)}
            for row in tree.body:
                if isinstance(row, ast.ImportFrom):
                    self.assertLessEqual({part.name for part in row.names}, used, name)

    def test_builtins(self):
        for name, node in NODES:
            if isinstance(node, ast.Name):
                self.assertNotIn(node.id, BARRED_NAMES)
                if node.id in TAKEN:
                    self.assertIsInstance(node.ctx, ast.Load)
                    self.assertIn(node.id, BUILTINS, name)
            if isinstance(node, ast.arg):
                self.assertNotIn(node.arg, TAKEN, name)
                self.assertIsNone(node.annotation)

    def test_local_names(self):
        for name, (_, tree) in FILES.items():
            barred = {row.name for row in tree.body if isinstance(row, ast.ClassDef)}
            for row in tree.body:
                if isinstance(row, ast.ImportFrom):
                    barred |= {part.name for part in row.names}
            for node in ast.walk(tree):
                if isinstance(node, ast.arg):
                    self.assertNotIn(node.arg, barred, name)
                if isinstance(node, ast.Name) and isinstance(node.ctx, ast.Store):
                    self.assertNotIn(node.id, barred, name)

    def test_methods(self):
        own = {node.name for _, node in NODES if isinstance(node, ast.FunctionDef)}
        for name, node in NODES:
            if isinstance(node, ast.Call) and isinstance(node.func, ast.Attribute):
                self.assertIn(node.func.attr, METHODS | own, name)
            if isinstance(node, ast.FunctionDef) and node.name.startswith("__"):
                self.assertIn(node.name, DOUBLE, name)


class Rows(unittest.TestCase):

    def test_barred(self):
        for name, node in NODES:
            self.assertNotIsInstance(node, BARRED_NODES, (name, getattr(node, "lineno", None)))
            if isinstance(node, ast.Constant):
                self.assertNotIsInstance(node.value, (float, complex))
                self.assertNotIn("%", str(node.value), name)

    def test_only_own_errors_are_caught(self):
        for name, node in NODES:
            if isinstance(node, ast.Try):
                self.assertEqual((node.orelse, node.finalbody), ([], []), name)
                for handler in node.handlers:
                    caught = handler.type.elts if isinstance(handler.type, ast.Tuple) else [handler.type]
                    self.assertLessEqual({part.id for part in caught}, ERRORS, name)
                    # A caught error's name stands behind `from` alone.
                    used = [part for row in handler.body for part in ast.walk(row) if isinstance(part, ast.Name) and part.id == handler.name]
                    causes = [row.cause for row in handler.body if isinstance(row, ast.Raise)]
                    self.assertTrue(all(part in causes for part in used), name)

    def test_leaving_a_block_assigns_alone(self):
        for name, node in NODES:
            if isinstance(node, ast.FunctionDef) and node.name == "__exit__":
                for row in node.body:
                    self.assertIsInstance(row, ast.Assign, name)
                    self.assertIsInstance(row.value, ast.Attribute, name)
                    self.assertEqual(row.value.value.id, "self", name)

    def test_patterns(self):
        for name, node in NODES:
            if isinstance(node, ast.Match):
                self.assertTrue(all(isinstance(case.pattern, (ast.MatchValue, ast.MatchOr, ast.MatchAs)) for case in node.cases), name)
                self.assertTrue(all(case.guard is None for case in node.cases), name)
                last = node.cases[-1].pattern
                self.assertTrue(isinstance(last, ast.MatchAs) and last.name is None, name)

    def test_is(self):
        for name, node in NODES:
            if isinstance(node, ast.Compare) and any(isinstance(sign, (ast.Is, ast.IsNot)) for sign in node.ops):
                self.assertIsInstance(node.comparators[0], ast.Constant, name)

    def test_raise(self):
        for name, node in NODES:
            if isinstance(node, ast.Raise) and node.exc is not None:
                self.assertIsInstance(node.exc, ast.Call, name)
                self.assertIn(node.exc.func.id, ERRORS | TAKEN, name)

    def test_iterated_at_once(self):
        for name, (_, tree) in FILES.items():
            there = iterated_at_once(tree)
            for node in ast.walk(tree):
                if is_short_lived(node):
                    self.assertIn(node, there, (name, node.lineno))

    def test_nothing_is_added_in_place(self):
        for name, node in NODES:
            if isinstance(node, ast.AugAssign):
                self.assertIsInstance(node.value, ast.Constant, (name, node.lineno))

    def test_sets(self):
        for name, (_, tree) in FILES.items():
            measured = [node.args[0] for node in ast.walk(tree) if isinstance(node, ast.Call)
                        and isinstance(node.func, ast.Name) and node.func.id in ("len", "sorted")]
            for node in ast.walk(tree):
                if isinstance(node, ast.Call) and isinstance(node.func, ast.Name) and node.func.id == "set":
                    self.assertIn(node, measured, name)
                self.assertNotIsInstance(node, (ast.Set, ast.SetComp), name)

    def test_stars_in_calls(self):
        for name, node in NODES:
            self.assertFalse(is_call_with_wrong_stars(node), (name, getattr(node, "lineno", None)))

    def test_stars_are_told_apart(self):
        wrong = ["zip(*told(table))", "max(*plan.arrows())", "f(*rows[0])", "f(*rows[1:])", "f(*[row for row in rows])",
                 "f(*(a + b))", "f(*plan.width)", "f(*a.b.c)", "f(*[told(a)])", "f(*xs, *told(ys))", "f(**told(d))", "f(told(a), **d)",
                 "f(**{'a': 1})", "f(k=1, **d)", "f(**d, **e)", "f(k=1, *xs)", "len(*xs)", "print(*xs)", "InvalidLot(*xs)",
                 "xs.append(*ys)", "f(*(a if b else c))", "f(*(a or b))", "[f(row) for row in zip(*told(table))]"]
        right = ["zip(*rows)", "max(*xs)", "min(*xs, key=len)", "f(*xs)", "f(k, *xs)", "f(*xs, n, sep=n)", "f(**d)", "f(k, **d)",
                 "f(*self.rows)", "f(*[a, b])", "f(*(a, 1))", "box.tell(*xs)", "f(told(a), *xs)", "f(told(a))", "[*told(a)]",
                 "super().__init__(*xs, **more)"]
        for row in wrong + right:
            found = [node for node in ast.walk(ast.parse(row)) if is_call_with_wrong_stars(node)]
            self.assertEqual(bool(found), row in wrong, row)


if __name__ == "__main__":
    unittest.main()
