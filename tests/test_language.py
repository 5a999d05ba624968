"""The rules of LANGUAGE.md that a look at the package's files can see, and the names of the interface."""

import ast
import builtins
import importlib
import inspect
import pathlib
import unittest

PACKAGE = pathlib.Path(__file__).resolve().parent.parent / "ringfloor"

INTERFACE = {
    "errors": {},
    "webs": {"web_of": ["many", "pairs"], "near_places": ["web"], "ways_of": ["web"]},
    "pieces": {"web_parts": ["web"], "web_blocks": ["web"], "web_girth": ["web"]},
    "webtext": {"show_web": ["web"], "read_web": ["text"]},
    "drawings": {"drawing_of": ["rows"], "drawn": ["web", "orders"], "orders_of": ["drawing"],
                 "web_beneath": ["drawing"]},
    "lands": {"lands_of": ["drawing"], "parts_of": ["drawing"], "holes_of": ["drawing"]},
    "tying": {"taken": ["drawing", "tie"], "shrunk": ["drawing", "tie"]},
    "rowtext": {"show_rows": ["drawing"], "read_rows": ["text"]},
    "flat": {"flat_orders": ["web"]},
    "heaps": {"barring": ["web"]},
    "spread": {"spread_of": ["web"]},
    "ringing": {"ring_orders": ["web"]},
    "counting": {"bar_of": ["web"]},
    "kinds": {"fours": ["rows", "columns", "shift"], "threes": ["rows", "columns", "shift"]},
    "kindread": {"read_kind": ["drawing", "end"]},
    "walks": {"is_walk": ["drawing", "ends"], "is_round": ["drawing", "ends"],
              "crossing_of": ["drawing", "walk", "other"]},
    "cutting": {"cut_along": ["drawing", "turn"]},
    "gluing": {"glued": ["drawing", "ones", "others"]},
    "fills": {"fill_of": ["drawing", "walk"]},
    "turns": {"turn_over": ["drawing", "turn"], "pair_of": ["drawing"]},
    "opening": {"opened": ["drawing"]},
    "marks": {"marks_of": ["drawing"], "sums_of": ["marks", "ends"]},
    "waist": {"waist_of": ["drawing"]},
    "colours": {"near_of": ["drawing"], "peeled": ["near", "most"], "coloured": ["near", "most"]},
    "othermap": {"other_of": ["drawing"], "mirrored": ["drawing"]},
    "layings": {"laid": ["one", "two", "end", "goal"], "alike": ["one", "two"], "selves_of": ["drawing"]},
    "lookwebs": {"is_flat": ["web", "orders"], "is_heaps": ["web", "heaps"]},
    "lookwalks": {"is_filled": ["drawing", "walk", "numbers"], "is_marks": ["drawing", "marks"]},
    "lookcolours": {"is_peeling": ["near", "order", "most"], "is_colouring": ["near", "colours", "most"]},
    "looklays": {"is_laying": ["one", "two", "lay"],
                 "is_kind": ["drawing", "sort", "rows", "columns", "shift", "lay"]},
    "desk": {"Desk": []},
}

BUILTINS = """len range enumerate zip min max sum abs sorted reversed int str bool list tuple dict set isinstance ord
    repr any all divmod ValueError super""".split()
METHODS = """append clear copy count endswith extend find get index insert isalnum isalpha isdigit islower isspace
    isupper items join keys ljust lower lstrip partition pop remove replace reverse rfind rjust rpartition rsplit
    rstrip setdefault split splitlines startswith strip update upper values zfill bit_length isascii add discard
    sort""".split()
CHANGING = "append clear extend insert pop remove reverse setdefault update add discard sort".split()
# What the subset has, but this package does without, is barred here too: so fewer rules need a look.
BARRED = (ast.AsyncFunctionDef, ast.Global, ast.Nonlocal, ast.Await, ast.Yield, ast.YieldFrom, ast.With, ast.Try,
          ast.TryStar, ast.Div, ast.MatMult, ast.Pow, ast.Starred, ast.NamedExpr, ast.GeneratorExp,
          ast.AnnAssign, ast.Assert, ast.Import)
WORDS = """type typing enum Enum Flag Generic Protocol ABC namedtuple register mro elements open input law eval exec
    compile globals locals vars dir id exit quit help""".split()


def files():
    return sorted(PACKAGE.glob("*.py"))


def trees():
    for path in files():
        yield path, ast.parse(path.read_text(encoding="ascii"))


def bound_names(tree):
    """What the file gives a meaning: names, parameters, functions, classes, imports."""
    for node in ast.walk(tree):
        if isinstance(node, (ast.FunctionDef, ast.ClassDef)):
            yield node.name
        elif isinstance(node, ast.arg):
            yield node.arg
        elif isinstance(node, ast.Name) and isinstance(node.ctx, ast.Store):
            yield node.id
        elif isinstance(node, ast.MatchAs) and node.name:
            yield node.name
        elif isinstance(node, ast.alias):
            yield node.asname or node.name


def top_names(tree):
    names = []
    for node in tree.body:
        if isinstance(node, ast.ImportFrom):
            names.extend(alias.name for alias in node.names)
        elif isinstance(node, (ast.FunctionDef, ast.ClassDef)):
            names.append(node.name)
        elif isinstance(node, ast.Assign):
            names.extend(target.id for target in node.targets)
    return names


def plain_values(value):
    """The values of a tuple or a dict, its keys among them, or the value alone."""
    if isinstance(value, ast.Dict):
        return value.keys + value.values
    return value.elts if isinstance(value, ast.Tuple) else [value]


def changed_names(body):
    """The names whose lists and dicts the rows change, by an item or by a method."""
    for row in body:
        for node in ast.walk(row):
            if isinstance(node, ast.Subscript) and not isinstance(node.ctx, ast.Load):
                yield from (name.id for name in ast.walk(node.value) if isinstance(name, ast.Name))
            if isinstance(node, ast.Call) and isinstance(node.func, ast.Attribute) and node.func.attr in CHANGING:
                yield from (name.id for name in ast.walk(node.func.value) if isinstance(name, ast.Name))


class Files(unittest.TestCase):
    def test_the_folder_holds_plain_files_alone(self):
        names = [path.name for path in PACKAGE.iterdir() if path.name != "__pycache__"]
        self.assertEqual(sorted(names), [path.name for path in files()])
        self.assertIn("__init__.py", names)
        for name in names:
            self.assertEqual(name, name.lower())

    def test_sizes_and_signs(self):
        for path in files():
            text = path.read_bytes().decode("ascii")
            self.assertTrue(all(sign == "\n" or " " <= sign <= "~" for sign in text), path)
            lines = text.split("\n")
            self.assertLessEqual(len(lines), 400, path)
            self.assertLessEqual(max(map(len, lines)), 120, path)

    def test_functions_are_small(self):
        for path, tree in trees():
            for node in ast.walk(tree):
                if isinstance(node, ast.FunctionDef):
                    self.assertLessEqual(node.end_lineno - node.lineno + 1, 40, (path, node.name))

    def test_the_first_file_binds_nothing(self):
        tree = ast.parse((PACKAGE / "__init__.py").read_text())
        self.assertEqual([node for node in tree.body if not isinstance(node, ast.Expr)], [])


class Language(unittest.TestCase):
    def test_module_level(self):
        allowed = (ast.ImportFrom, ast.FunctionDef, ast.ClassDef, ast.Assign)
        for path, tree in trees():
            self.assertTrue(ast.get_docstring(tree), path)
            for node in tree.body[1:]:
                self.assertIsInstance(node, allowed, path)
                if isinstance(node, ast.Assign):
                    values = plain_values(node.value)
                    for value in values:
                        self.assertIsInstance(value, ast.Constant, path)
                    self.assertEqual(len(node.targets), 1, path)
            names = top_names(tree)
            self.assertEqual(len(names), len(set(names)), path)

    def test_imports_name_the_file_that_defines(self):
        defined = {path.stem: [node.name for node in tree.body if isinstance(node, (ast.FunctionDef, ast.ClassDef))]
                   + [node.targets[0].id for node in tree.body if isinstance(node, ast.Assign)]
                   for path, tree in trees()}
        for path, tree in trees():
            for node in ast.walk(tree):
                if isinstance(node, ast.ImportFrom):
                    self.assertIn(node, tree.body, path)
                    self.assertEqual(node.level, 0, path)
                    self.assertTrue(node.module.startswith("ringfloor."), path)
                    for alias in node.names:
                        self.assertIsNone(alias.asname, path)
                        self.assertIn(alias.name, defined[node.module.split(".")[1]], path)

    def test_no_two_files_import_from_each_other(self):
        behind = {path.stem: {node.module.split(".")[1] for node in tree.body if isinstance(node, ast.ImportFrom)}
                  for path, tree in trees()}
        while behind:
            free = [name for name in behind if not behind[name] & set(behind)]
            self.assertTrue(free, behind)
            for name in free:
                del behind[name]

    def test_no_statement_or_sign_that_is_barred(self):
        for path, tree in trees():
            for node in ast.walk(tree):
                self.assertNotIsInstance(node, BARRED, (path, getattr(node, "lineno", 0)))
                self.assertFalse(getattr(node, "decorator_list", []), path)
                if isinstance(node, ast.Constant):
                    self.assertNotIsInstance(node.value, (float, complex, bytes), path)

    def test_names(self):
        for path, tree in trees():
            imported = [alias.name for node in tree.body if isinstance(node, ast.ImportFrom) for alias in node.names]
            inner = [name for node in tree.body if not isinstance(node, ast.ImportFrom) for name in bound_names(node)]
            for name in inner:
                self.assertNotIn(name, imported, path)
                if name not in ("_", "__init__"):
                    self.assertFalse(hasattr(builtins, name), (path, name))
                    self.assertNotIn(name, WORDS, path)
                    self.assertFalse(name.startswith("_"), (path, name))

    def test_calls_of_builtins_and_methods(self):
        own = [row.name for _, tree in trees() for node in tree.body if isinstance(node, ast.ClassDef)
               for row in node.body if isinstance(row, ast.FunctionDef)]
        for path, tree in trees():
            for node in ast.walk(tree):
                if isinstance(node, ast.Name) and hasattr(builtins, node.id):
                    self.assertIn(node.id, BUILTINS, (path, node.lineno))
                if isinstance(node, ast.Call) and isinstance(node.func, ast.Attribute):
                    self.assertIn(node.func.attr, METHODS + own, (path, node.lineno))

    def test_no_loop_changes_what_it_goes_over(self):
        for path, tree in trees():
            for node in ast.walk(tree):
                # What is written into a list of its own ahead of the loop may be changed.
                if isinstance(node, ast.For) and not ast.unparse(node.iter).startswith("list("):
                    over = {name.id for name in ast.walk(node.iter) if isinstance(name, ast.Name)}
                    self.assertFalse(over & set(changed_names(node.body)), (path, node.lineno))

    def test_match(self):
        for path, tree in trees():
            for node in ast.walk(tree):
                if isinstance(node, ast.FunctionDef):
                    names = {name.id for name in ast.walk(node)
                             if isinstance(name, ast.Name) and isinstance(name.ctx, ast.Store)}
                    names |= {name.arg for name in ast.walk(node) if isinstance(name, ast.arg)}
                    for case in [case for case in ast.walk(node) if isinstance(case, ast.match_case)]:
                        self.check_case(case, names, (path, case.pattern.lineno))

    def check_case(self, case, names, where):
        """That a case is a literal first word and names that mean nothing else in the function."""
        self.assertIsNone(case.guard, where)
        self.assertIsInstance(case.pattern, ast.MatchSequence, where)
        first, *others = case.pattern.patterns
        self.assertIsInstance(first, ast.MatchValue, where)
        self.assertIsInstance(first.value.value, str, where)
        for other in others:
            self.assertIsInstance(other, ast.MatchAs, where)
            self.assertIsNone(other.pattern, where)
            self.assertNotIn(other.name, names, where)

    def test_classes(self):
        for path, tree in trees():
            for node in tree.body:
                if isinstance(node, ast.ClassDef):
                    methods = [row.name for row in node.body if isinstance(row, ast.FunctionDef)]
                    fields = [one.attr for one in ast.walk(node) if isinstance(one, ast.Attribute)
                              and isinstance(one.ctx, ast.Store)]
                    self.assertEqual(len(methods), len(set(methods)), (path, node.name))
                    self.assertFalse(set(methods) & set(fields), (path, node.name))
                    self.assertFalse((set(methods) | set(fields)) & set(METHODS + WORDS), (path, node.name))
                    for name in methods:
                        self.assertTrue(name == "__init__" or not name.startswith("_"), (path, name))

    def test_strings(self):
        for path, tree in trees():
            for node in ast.walk(tree):
                if isinstance(node, ast.Constant) and isinstance(node.value, str):
                    self.assertNotIn("%", node.value, (path, node.lineno))


class Interface(unittest.TestCase):
    def test_each_function_is_defined_in_its_file_with_its_arguments(self):
        for name, functions in INTERFACE.items():
            module = importlib.import_module("ringfloor." + name)
            for function, arguments in functions.items():
                found = getattr(module, function)
                self.assertEqual(found.__module__, "ringfloor." + name)
                parameters = inspect.signature(found).parameters
                self.assertEqual(list(parameters), arguments)
                for argument in parameters.values():
                    self.assertEqual(argument.default, 6 if argument.name == "most" else argument.empty)

    def test_a_desk_does_a_line(self):
        method = vars(importlib.import_module("ringfloor.desk").Desk)["do"]
        self.assertEqual(list(inspect.signature(method).parameters), ["self", "line"])


if __name__ == "__main__":
    unittest.main()
