"""Rules of the language that can be read off the files of the package."""

import ast
import pathlib
import re
import unittest

PACKAGE = pathlib.Path(__file__).resolve().parent.parent / "threadworth"
LIBRARY = {
    "heapq": {"heappush", "heappop", "heapify", "heapreplace", "heappushpop"},
    "math": {"gcd", "lcm", "isqrt", "comb", "perm", "factorial"},
    "itertools": {
        "product", "combinations", "permutations", "chain", "accumulate", "pairwise",
        "islice", "zip_longest",
    },
    "collections": {"defaultdict"},
}
BUILTINS = set((
    "len range enumerate zip min max sum abs sorted reversed int str bool bytes list tuple dict "
    "set isinstance ord repr any all divmod map iter next Exception ValueError TypeError KeyError "
    "IndexError LookupError ZeroDivisionError NotImplemented super"
).split())
METHODS = set((
    "append clear copy count endswith extend find get index insert isalnum isalpha isdigit "
    "islower isspace isupper items join keys ljust lower lstrip partition pop remove replace "
    "reverse rfind rjust rpartition rsplit rstrip setdefault split splitlines startswith strip "
    "update upper values zfill bit_length title capitalize removeprefix removesuffix isascii add"
).split())
BARRED = re.compile(
    r"\b(type|typing|enum|Enum|Generic|Protocol|ABC|namedtuple|NamedTuple|register|mro|elements"
    r"|open|input|law|eval|exec|compile|globals|locals|vars|dir|help|id|hash|chr|float)\b"
)


def package_files():
    return sorted(path for path in PACKAGE.rglob("*") if "__pycache__" not in path.parts)


def trees():
    return [(path, ast.parse(path.read_text(encoding="utf-8"))) for path in package_files()]


MODIFIERS = {
    "append", "clear", "extend", "insert", "pop", "remove", "reverse", "setdefault", "sort",
    "update", "add", "discard",
}


def is_created(value):
    """Tell if a value surely is a new list, dict or set, though a class has a __mul__."""
    if isinstance(value, ast.Call):
        return getattr(value.func, "id", "") in {"list", "dict", "set", "sorted"}
    return isinstance(value, (ast.List, ast.Dict, ast.ListComp, ast.DictComp, ast.SetComp))


def plain_targets(node):
    """The pairs of a target and what it is assigned; None if that is part of it."""
    if isinstance(node, ast.Assign):
        for target in node.targets:
            if isinstance(target, (ast.Tuple, ast.List)):
                yield from [(part, None) for part in target.elts]
            else:
                yield target, node.value
    elif isinstance(node, (ast.For, ast.comprehension)):
        yield from [(part, None) for part in ast.walk(node.target) if isinstance(part, ast.Name)]


def unsure_changes(function):
    """The rows in which a function changes what it did not surely create itself."""
    assigned = {}
    for node in ast.walk(function):
        for target, value in plain_targets(node):
            if isinstance(target, ast.Name):
                assigned.setdefault(target.id, []).append(value is not None and is_created(value))

    def own(thing):
        return isinstance(thing, ast.Name) and all(assigned.get(thing.id, [False]))

    found = []
    for node in ast.walk(function):
        for target, _ in plain_targets(node):
            if isinstance(target, ast.Subscript) and not own(target.value):
                found.append(node.lineno)
            if isinstance(target, ast.Attribute) and function.name != "__init__":
                found.append(node.lineno)
        if isinstance(node, ast.Delete):
            found.append(node.lineno)
        if isinstance(node, ast.Call) and isinstance(node.func, ast.Attribute):
            if node.func.attr in MODIFIERS and not own(node.func.value):
                found.append(node.lineno)
    return found


def functions_by_name(files):
    """For each file the functions and classes that its names mean, and all methods by name."""
    told = {path.stem: {} for path, _ in files}
    methods = {}
    for path, tree in files:
        for node in tree.body:
            if isinstance(node, (ast.FunctionDef, ast.ClassDef)):
                told[path.stem][node.name] = (path.stem, node)
            if isinstance(node, ast.ClassDef):
                for method in node.body:
                    if isinstance(method, ast.FunctionDef):
                        methods.setdefault(method.name, []).append((path.stem, method))
    for path, tree in files:
        for node in tree.body:
            if isinstance(node, ast.ImportFrom) and node.module.startswith("threadworth."):
                source = told[node.module.partition(".")[2]]
                names = [name.name for name in node.names if name.name in source]
                told[path.stem].update({name: source[name] for name in names})
    return told, methods


def reached_from_operators(files):
    """The functions and methods that operators come to call, operators included."""
    told, methods = functions_by_name(files)
    waiting = [
        pair for name, pairs in methods.items() if name.startswith("__")
        and name not in ("__init__", "__enter__", "__exit__") for pair in pairs
    ]
    reached = []
    while waiting:
        file, function = waiting.pop()
        if (file, function) in reached:
            continue
        reached.append((file, function))
        for node in ast.walk(function):
            if not isinstance(node, ast.Call):
                continue
            if isinstance(node.func, ast.Attribute):
                waiting += methods.get(node.func.attr, [])
            elif node.func.id in told[file]:
                home, thing = told[file][node.func.id]
                if isinstance(thing, ast.FunctionDef):
                    waiting.append((home, thing))
                else:
                    waiting += [
                        (home, method) for method in thing.body
                        if getattr(method, "name", "") == "__init__"
                    ]
    return reached


def own_names(tree):
    """The names that a module binds at its own level."""
    found = set()
    for node in tree.body:
        if isinstance(node, (ast.FunctionDef, ast.ClassDef)):
            found.add(node.name)
        elif isinstance(node, ast.Assign):
            found.update(target.id for target in node.targets)
    return found


class LanguageTest(unittest.TestCase):

    def test_the_folder_holds_python_files_alone(self):
        self.assertIn(PACKAGE / "__init__.py", package_files())
        for path in package_files():
            self.assertRegex(path.name, r"\A[a-z_0-9]+\.py\Z")

    def test_characters_and_lengths(self):
        for path in package_files():
            text = path.read_text(encoding="utf-8")
            rows = text.split("\n")
            self.assertLessEqual(len(rows) - 1, 399, path)
            self.assertTrue(all(32 <= ord(sign) <= 126 for row in rows for sign in row), path)
            self.assertTrue(all(len(row) <= 120 for row in rows), path)

    def test_functions_have_at_most_40_lines(self):
        for path, tree in trees():
            for node in ast.walk(tree):
                if isinstance(node, ast.FunctionDef):
                    self.assertLessEqual(node.end_lineno - node.lineno + 1, 40, (path, node.name))

    def test_imports(self):
        for path, tree in trees():
            for node in ast.walk(tree):
                self.assertNotIsInstance(node, ast.Import, path)
                if isinstance(node, ast.ImportFrom):
                    self.assertIn(node, tree.body)
                    self.assertEqual(node.level, 0)
                    names = {name.name for name in node.names}
                    self.assertTrue(all(name.asname is None for name in node.names))
                    if node.module in LIBRARY:
                        self.assertLessEqual(names, LIBRARY[node.module])
                    else:
                        folder, _, file = node.module.partition(".")
                        self.assertEqual(folder, "threadworth")
                        source = (PACKAGE / (file + ".py")).read_text(encoding="utf-8")
                        self.assertLessEqual(names, own_names(ast.parse(source)))

    def test_no_file_imports_in_a_circle(self):
        imported = {
            path.stem: {
                node.module.partition(".")[2] for node in tree.body
                if isinstance(node, ast.ImportFrom) and node.module.startswith("threadworth.")
            }
            for path, tree in trees()
        }
        done = set()
        while len(done) < len(imported):
            ready = {name for name in imported if name not in done and imported[name] <= done}
            self.assertTrue(ready, "files import from each other")
            done |= ready

    def test_names_are_bound_once_and_do_not_hide_imports(self):
        for path, tree in trees():
            imports = [
                name.name for node in tree.body if isinstance(node, ast.ImportFrom)
                for name in node.names
            ]
            bound = imports + [
                node.name for node in tree.body if isinstance(node, (ast.FunctionDef, ast.ClassDef))
            ]
            self.assertEqual(len(bound), len(set(bound)), path)
            for node in ast.walk(tree):
                if isinstance(node, ast.arg):
                    self.assertNotIn(node.arg, set(imports) | BUILTINS, path)
                if isinstance(node, ast.Name) and isinstance(node.ctx, ast.Store):
                    self.assertNotIn(node.id, set(imports) | BUILTINS, path)

    def test_kinds_of_statements_and_expressions(self):
        barred = (
            ast.Global, ast.AsyncFunctionDef, ast.AsyncFor, ast.AsyncWith, ast.Await, ast.Div,
            ast.MatMult,
        )
        for path, tree in trees():
            for node in ast.walk(tree):
                self.assertNotIsInstance(node, barred, path)
                if isinstance(node, ast.Constant):
                    self.assertNotIsInstance(node.value, (float, complex), path)
                    if isinstance(node.value, str):
                        self.assertNotIn(chr(37), node.value, path)
            ranged = self.short_ranges(tree)
            for node in ast.walk(tree):
                if isinstance(node, ast.BinOp) and isinstance(node.op, ast.Pow):
                    if not isinstance(node.right, ast.Constant):
                        self.assertIn(node, ranged, path)
                    else:
                        self.assertTrue(0 <= node.right.value <= 64)

    def short_ranges(self, tree):
        """The powers by the variable of a list comprehension over a short literal range."""
        found = []
        for node in ast.walk(tree):
            if isinstance(node, ast.ListComp):
                loop = node.generators[0]
                bounds = getattr(loop.iter, "args", [])
                if getattr(getattr(loop.iter, "func", None), "id", "") == "range" and all(
                    isinstance(bound, ast.Constant) and 0 <= bound.value <= 64 for bound in bounds
                ):
                    found += [
                        part for part in ast.walk(node.elt) if isinstance(part, ast.BinOp)
                        and getattr(part.right, "id", "") == loop.target.id
                    ]
        return found

    def test_calls(self):
        for path, tree in trees():
            names = own_names(tree) | BUILTINS | {
                name.name for node in tree.body if isinstance(node, ast.ImportFrom)
                for name in node.names
            }
            own_methods = {
                node.name for _, other in trees() for top in other.body
                if isinstance(top, ast.ClassDef) for node in top.body
                if isinstance(node, ast.FunctionDef)
            }
            # What is taken out of a table of functions, one to a name.
            names |= {
                node.targets[0].id for node in ast.walk(tree) if isinstance(node, ast.Assign)
                and isinstance(node.targets[0], ast.Name) and isinstance(node.value, ast.Subscript)
                and getattr(node.value.value, "id", "").isupper()
            }
            for node in ast.walk(tree):
                if isinstance(node, ast.Call):
                    if isinstance(node.func, ast.Name):
                        self.assertIn(node.func.id, names, path)
                    else:
                        self.assertIn(node.func.attr, METHODS | own_methods, path)

    def test_barred_words(self):
        for path, tree in trees():
            for node in ast.walk(tree):
                for name in (getattr(node, "id", ""), getattr(node, "arg", ""),
                             getattr(node, "attr", ""), getattr(node, "name", "")):
                    if isinstance(name, str):
                        self.assertIsNone(BARRED.fullmatch(name), (path, name))
                        self.assertFalse(name.startswith("__") and name not in (
                            "__init__", "__eq__", "__repr__", "__str__", "__len__", "__bool__",
                            "__add__", "__sub__", "__neg__", "__mul__", "__enter__", "__exit__",
                        ), (path, name))

    def test_stars_and_generator_expressions(self):
        # Beside a class with __eq__ the calls any, sum, sorted and the like take
        # lists, so that there is no use for generator expressions.
        for path, tree in trees():
            for node in ast.walk(tree):
                self.assertNotIsInstance(node, ast.GeneratorExp, path)
                if isinstance(node, ast.Call):
                    for argument in node.args:
                        if isinstance(argument, ast.Starred):
                            self.assertIsInstance(argument.value, (ast.Name, ast.Attribute), path)

    def test_augmented_assignments_are_of_plain_numbers(self):
        for path, tree in trees():
            for node in ast.walk(tree):
                if isinstance(node, ast.AugAssign):
                    self.assertIsInstance(node.target, ast.Name, path)
                    self.assertIsInstance(node.value, ast.Constant, path)
                    self.assertIsInstance(node.value.value, int, path)

    def test_ranges_and_the_like_are_iterated_at_once(self):
        takers = {
            "list", "tuple", "dict", "sorted", "sum", "any", "all", "enumerate", "zip", "len",
            "reversed", "min", "max", "permutations", "combinations",
        }
        lazy = {
            "range", "zip", "enumerate", "reversed", "items", "keys", "values", "permutations",
            "combinations",
        }
        for path, tree in trees():
            allowed = set()
            for node in ast.walk(tree):
                if isinstance(node, (ast.For, ast.comprehension)):
                    allowed.add(node.iter)
                if isinstance(node, ast.Compare):
                    allowed.update(node.comparators)
                if isinstance(node, ast.Call) and getattr(node.func, "id", "") in takers:
                    allowed.update(node.args)
            for node in ast.walk(tree):
                if isinstance(node, ast.Call):
                    name = getattr(node.func, "id", getattr(node.func, "attr", ""))
                    if name in lazy:
                        self.assertIn(node, allowed, (path, node.lineno))

    def test_errors_that_are_caught_and_raised(self):
        errors = own_names(ast.parse((PACKAGE / "errors.py").read_text(encoding="utf-8")))
        for path, tree in trees():
            for node in ast.walk(tree):
                if isinstance(node, ast.ExceptHandler):
                    self.assertIn(node.type.id, errors, path)
                if isinstance(node, ast.Raise):
                    self.assertIn(node.exc.func.id, errors, path)

    def test_operators_change_only_what_they_create(self):
        files = trees()
        reached = reached_from_operators(files)
        names = [function.name for _, function in reached]
        for name in ("__add__", "__mul__", "__neg__", "__init__", "labels", "put", "piece_marks",
                     "from_labels", "plus", "terms"):
            self.assertIn(name, names)
        for file, function in reached:
            self.assertEqual(unsure_changes(function), [], (file, function.name))

    def test_what_counts_as_created(self):
        for text, rows in (
            ("marks = [0] * n\nmarks[0] = 1", [3]), ("marks = [0 for _ in n]\nmarks[0] = 1", []),
            ("marks = list(n)\nmarks[0] = 1", []), ("marks = {}\nmarks[0] = 1", []),
            ("n[0] = 1", [2]), ("n.append(1)", [2]), ("n.x = 1", [2]), ("del n[0]", [2]),
            ("found = []\nfound.append(1)", []), ("found = []\nfound = n\nfound.pop()", [4]),
            ("found = []\nfor found in n:\n    found.pop()", [4]),
            ("found, rest = n\nfound.append(1)", [3]), ("a = b = n\nb[0] = 1", [3]),
        ):
            lines = "".join("    " + row + "\n" for row in text.split("\n"))
            function = ast.parse("def some(n):\n" + lines).body[0]
            self.assertEqual(unsure_changes(function), rows, text)

    def test_the_rows_of_exit(self):
        # Neither a test of an attribute nor a call may stand there.
        for path, tree in trees():
            for node in ast.walk(tree):
                if isinstance(node, ast.FunctionDef) and node.name == "__exit__":
                    for part in ast.walk(node):
                        self.assertNotIsInstance(part, (ast.Call, ast.BinOp, ast.BoolOp), path)
                        if isinstance(part, ast.If):
                            self.assertEqual(ast.unparse(part.test), "kind is None")

    def test_the_checker_imports_the_errors_alone(self):
        tree = ast.parse((PACKAGE / "certificates.py").read_text(encoding="utf-8"))
        modules = [node.module for node in tree.body if isinstance(node, ast.ImportFrom)]
        self.assertEqual(modules, ["threadworth.errors"])

    def test_some_names_are_not_used(self):
        barred = {
            "_cold", "_tuplegetter", "_outside", "_record", "_written_out", "_member_names",
        }
        starts = (
            "_wall", "_pe_", "_dcw_", "_enum_", "_cm_", "_twin_re_", "_lay_", "_law_", "_stub_",
            "_sre",
        )
        for path, tree in trees():
            for name in own_names(tree):
                self.assertNotIn(name.rstrip("_0123456789"), barred, path)
                self.assertFalse(name.startswith(starts), (path, name))
