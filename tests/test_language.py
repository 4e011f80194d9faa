"""The files of the package keep the rules of the language, as far as a reading of their trees can tell."""

import ast
import inspect
import os
import unittest

import swapkinds
from swapkinds import certificates, checker, consoles, errors, firsts, growing, knowing, libraries, mends, orders, plans
from swapkinds import rings, turns, works, yards

# the functions that the interface lists, with their parameters
FUNCTIONS = {
    rings: {"pairs_first": ["yard"], "most_rings": ["yard"], "is_parting": ["yard", "value"], "ring_ranges": ["yard"]},
    orders: {"forward": ["yard", "order"], "best_orders": ["yard"], "least_swaps": ["yard"]},
    plans: {"swap_plan": ["yard"], "plan_length": ["plan"], "most_in_place": ["yard", "number"],
            "swaps_for": ["yard", "number"]},
    turns: {"most_threes": ["yard"], "least_moves": ["yard"], "move_plan": ["yard"], "least_bar": ["yard"]},
    firsts: {"is_good": ["yard", "move"], "good_times": ["yard", "move"], "good_swaps": ["yard"]},
    growing: {"last_step": ["yard", "growth"], "pieces": ["yard", "growth"],
              "steps_within": ["yard", "growth", "number"], "overtakes": ["one", "growth", "other", "second"]},
    knowing: {"possible": ["facts"], "fits": ["facts", "yard"], "some_rows": ["facts"],
              "case_range": ["facts", "place", "thing"], "out_range": ["facts"], "most_swaps": ["facts"]},
    mends: {"kept": ["yard", "wish"], "mends": ["yard", "wishes", "changes"]},
    checker: {"accepts": ["claim", "certificate"]},
    certificates: {"certify_swaps": ["yard"], "certify_moves": ["yard"], "certify_good": ["yard", "move"],
                   "certify_within": ["facts"], "certify_needs": ["facts", "number"]}}
# the classes that it lists, with the parameters they are made with, of their methods, and their properties
CLASSES = {
    yards.Yard: (["kinds", "rows"], {
        "cases": ["place", "thing"], "out": [], "size": [], "made": ["move", "times"], "behind": ["plan"],
        "changed": ["changes"], "__eq__": ["other"], "__len__": [], "__str__": [], "__repr__": [],
        "__add__": ["other"]},
        ["kinds", "rows"]),
    knowing.Facts: (["kinds", "lines"], {"bounds": ["place", "thing"], "__eq__": ["other"], "__len__": [],
                                         "__repr__": []}, ["kinds", "lines"]),
    works.Work: (["yard"], {"make": ["move", "times"], "undo": [], "trial": [], "tried": ["action"], "__len__": []},
                 ["first", "yard", "plan", "left", "wasted"]),
    consoles.Console: ([], {"do": ["line"]}, ["names"]),
    libraries.Library: ([], {"remove": ["name"], "wish": ["name", "wish"], "lift": ["index"], "undo": [], "trial": [],
                             "tried": ["action"], "__contains__": ["x"], "__getitem__": ["at"],
                             "__setitem__": ["at", "worth"], "__len__": []}, ["names", "wishes", "changes"])}
FOLDER = os.path.dirname(swapkinds.__file__)
BUILTINS = set("""len range enumerate zip min max sum abs sorted reversed int str bool bytes list tuple dict set
    isinstance ord repr any all divmod classmethod staticmethod property super NotImplemented Exception ValueError
    TypeError KeyError IndexError LookupError ZeroDivisionError ArithmeticError OverflowError RuntimeError""".split())
METHODS = set("""append clear copy count endswith extend find get index insert isalnum isalpha isdigit islower isspace
    isupper items join keys ljust lower lstrip partition pop remove replace reverse rfind rjust rpartition rsplit rstrip
    setdefault split splitlines startswith strip update upper values zfill bit_length add discard""".split())
STATEMENTS = (ast.FunctionDef, ast.ClassDef, ast.Import, ast.ImportFrom, ast.Assign)
BARRED = (ast.Global, ast.AsyncFunctionDef, ast.AsyncFor, ast.AsyncWith, ast.Await, ast.Div, ast.GeneratorExp,
          ast.Lambda, ast.AnnAssign, ast.Import)
WORDS = {"register", "elements", "open", "input", "law", "type", "id", "vars", "dir", "exec", "eval", "exit", "format"}


def files():
    return sorted(name for name in os.listdir(FOLDER) if name != "__pycache__")


def source(name):
    with open(os.path.join(FOLDER, name), encoding="utf-8") as held:
        return held.read()


def trees():
    return [(name, ast.parse(source(name))) for name in files()]


def names_bound(tree):
    """All names that a file gives to something."""
    bound = {node.id for node in ast.walk(tree) if isinstance(node, ast.Name) and not isinstance(node.ctx, ast.Load)}
    bound |= {node.arg for node in ast.walk(tree) if isinstance(node, ast.arg)}
    bound |= {node.name for node in ast.walk(tree) if isinstance(node, (ast.FunctionDef, ast.ClassDef))}
    return bound | {name.name for node in ast.walk(tree) if isinstance(node, ast.ImportFrom) for name in node.names}


def function_of(name, rows):
    """The tree of a method with these rows, which stand on one line."""
    return ast.parse(f"def {name}(self, kind, value, trace):\n    " + rows.replace("; ", "\n    ")).body[0]


class Rules(unittest.TestCase):
    def test_files(self):
        for name in files():
            self.assertRegex(name, r"^[a-z_]+\.py$")
            text = source(name)
            self.assertTrue(all(sign == "\n" or " " <= sign <= "~" for sign in text), name)
            self.assertLessEqual(len(text.splitlines()), 399, name)
            self.assertLessEqual(max(map(len, text.splitlines())), 120, name)
            self.assertFalse([line for line in text.splitlines() if line != line.rstrip()], name)

    def test_module_level(self):
        for name, tree in trees():
            for at, node in enumerate(tree.body):
                docstring = at == 0 and isinstance(node, ast.Expr)
                self.assertTrue(docstring or isinstance(node, STATEMENTS), (name, node.lineno))
                if isinstance(node, ast.Assign):
                    self.assertEqual([isinstance(target, ast.Name) for target in node.targets], [True])

    def test_functions_are_short(self):
        for name, tree in trees():
            for node in ast.walk(tree):
                if isinstance(node, ast.FunctionDef):
                    self.assertLessEqual(node.end_lineno - node.lineno + 1, 40, (name, node.name))

    def test_nodes(self):
        for name, tree in trees():
            for node in ast.walk(tree):
                self.assertNotIsInstance(node, BARRED, (name, getattr(node, "lineno", None)))
                if isinstance(node, ast.Constant):
                    self.assertNotIsInstance(node.value, (float, complex))
                    self.assertNotIn("%", node.value if isinstance(node.value, str) else "")
                if isinstance(node, ast.BinOp) and isinstance(node.op, ast.Pow):
                    self.assertIn(node.right.value, range(65))
                if isinstance(node, ast.ExceptHandler):
                    self.assertIsNotNone(node.type)

    def test_imports(self):
        for name, tree in trees():
            for node in ast.walk(tree):
                if isinstance(node, ast.ImportFrom):
                    self.assertEqual((node.level, node.module.split(".")[0]), (0, "swapkinds"), name)
                    home = source(node.module.split(".")[1] + ".py")
                    for imported in node.names:
                        self.assertIsNone(imported.asname)
                        self.assertRegex(home, rf"(?m)^((def|class) {imported.name}\b|{imported.name} =)")
                        self.assertGreater(source(name).count(imported.name), 1, (name, imported.name))

    def test_names(self):
        for name, tree in trees():
            bound = names_bound(tree)
            self.assertFalse(bound & (BUILTINS | WORDS), name)
            for node in ast.walk(tree):
                if isinstance(node, ast.Name) and isinstance(node.ctx, ast.Load):
                    self.assertIn(node.id, bound | BUILTINS, (name, node.lineno))

    def test_names_of_imports(self):
        """No parameter, local variable or nested function has the name of an import or a class of its file."""
        for name, tree in trees():
            above = {part.name for node in tree.body if isinstance(node, ast.ImportFrom) for part in node.names}
            above |= {node.name for node in tree.body if isinstance(node, ast.ClassDef)}
            for function in ast.walk(tree):
                if isinstance(function, ast.FunctionDef):
                    local = {node.arg for node in ast.walk(function) if isinstance(node, ast.arg)}
                    local |= {node.id for node in ast.walk(function)
                              if isinstance(node, ast.Name) and not isinstance(node.ctx, ast.Load)}
                    self.assertFalse(local & above, (name, function.name))

    def test_module_level_values(self):
        """Values at module level are literal; a list or a dict stands in no other value."""
        for name, tree in trees():
            for node in tree.body:
                if isinstance(node, ast.Assign):
                    parts = list(ast.walk(node.value))
                    self.assertFalse([part for part in parts if isinstance(part, (ast.Call, ast.comprehension))], name)
                    self.assertFalse([part for part in parts[1:] if isinstance(part, (ast.List, ast.Dict, ast.Set))],
                                     name)
                    signs = [part for part in parts if isinstance(part, (ast.UnaryOp, ast.BinOp))]
                    self.assertLess(len(signs), 100, name)

    def test_no_two_files_import_one_another(self):
        needed = {name[:-3]: {node.module.split(".")[1] for node in tree.body if isinstance(node, ast.ImportFrom)}
                  for name, tree in trees()}
        while needed:
            free = [name for name, others in needed.items() if not others & set(needed)]
            self.assertTrue(free, needed)
            needed = {name: others for name, others in needed.items() if name not in free}

    def test_no_method_is_read_off_a_class(self):
        classes = {node.name for _, tree in trees() for node in tree.body if isinstance(node, ast.ClassDef)}
        for name, tree in trees():
            for node in ast.walk(tree):
                if isinstance(node, ast.Attribute) and isinstance(node.value, ast.Name):
                    self.assertNotIn(node.value.id, classes, (name, node.lineno))

    def test_stars_in_calls(self):
        """Behind a star in a call stands a name; no call has two stars."""
        for name, tree in trees():
            for node in ast.walk(tree):
                if isinstance(node, ast.Call):
                    for part in node.args:
                        if isinstance(part, ast.Starred):
                            self.assertIsInstance(part.value, ast.Name, (name, node.lineno))
                    self.assertTrue(all(part.arg for part in node.keywords), (name, node.lineno))

    def test_what_is_iterated_is_not_changed(self):
        """No name that a loop goes over is assigned an item, or appended to, within it."""
        for name, tree in trees():
            for loop in ast.walk(tree):
                if isinstance(loop, ast.For):
                    over = {ast.unparse(node) for node in ast.walk(loop.iter)
                            if isinstance(node, (ast.Name, ast.Attribute))}
                    changed = {ast.unparse(node.value) for part in loop.body for node in ast.walk(part)
                               if isinstance(node, ast.Subscript) and not isinstance(node.ctx, ast.Load)}
                    changed |= {ast.unparse(node.func.value) for part in loop.body for node in ast.walk(part)
                                if isinstance(node, ast.Call) and isinstance(node.func, ast.Attribute)
                                and node.func.attr in ("append", "extend", "pop", "insert", "remove", "clear")}
                    self.assertFalse(over & changed, (name, loop.lineno))

    def test_words_that_do_not_occur(self):
        for name in files():
            for word in ("(type)", "Meta", "metaclass=", "_wall", "dataclass", "contextmanager", "overload"):
                self.assertNotIn(word, source(name), name)
            strings = [node.value for node in ast.walk(ast.parse(source(name)))
                       if isinstance(node, ast.Constant) and isinstance(node.value, str)]
            self.assertFalse([value for value in strings if value.endswith("._") or value.startswith("__")])

    def test_methods(self):
        own = {node.name for _, tree in trees() for node in ast.walk(tree) if isinstance(node, ast.FunctionDef)}
        for name, tree in trees():
            for node in ast.walk(tree):
                if isinstance(node, ast.Call) and isinstance(node.func, ast.Attribute):
                    self.assertIn(node.func.attr, own | METHODS, (name, node.lineno))


    def test_properties(self):
        """No attribute that is assigned has the name of a property or a method of any class."""
        defined, assigned = set(), set()
        for _, tree in trees():
            for node in ast.walk(tree):
                if isinstance(node, ast.ClassDef):
                    defined |= {part.name for part in node.body if isinstance(part, ast.FunctionDef)}
                if isinstance(node, ast.Attribute) and not isinstance(node.ctx, ast.Load):
                    assigned.add(node.attr)
        self.assertFalse(defined & assigned)

    def ending_row(self, row, at_once):
        """A row of `__exit__`, or of the method it calls; the name that it gives a value to, or None."""
        if isinstance(row, ast.Expr):
            self.assertEqual((ast.unparse(row), at_once), ("self.shut()", True))
            return None
        self.assertIsInstance(row, ast.Assign)
        self.assertEqual((type(row.value), len(row.targets)), (ast.Attribute, 1))
        self.assertRegex(ast.unparse(row.value), r"^self(\.\w+)+$")
        if isinstance(row.targets[0], ast.Name):
            # a local variable stands for an attribute of the trial itself, not for one further off
            self.assertRegex(ast.unparse(row.value), r"^self\.\w+$")
            return row.targets[0].id
        self.assertIsInstance(row.targets[0], ast.Attribute)
        return None

    def ending(self, function):
        """What `__exit__` and `shut` do; `shut` has no local variable, `__exit__` has one, assigned once."""
        at_once, named = function.name == "__exit__", []
        for part in function.body:
            if isinstance(part, ast.If):
                self.assertEqual((ast.unparse(part.test), at_once, part.orelse), ("kind is not None", True, []))
            named += [self.ending_row(row, at_once) for row in (part.body if isinstance(part, ast.If) else [part])]
        self.assertLessEqual(len([name for name in named if name]), 1 if at_once else 0, function.name)

    def test_ends_of_statements(self):
        """Attributes are assigned attributes, nothing else is called or read."""
        found = 0
        for _, tree in trees():
            for node in ast.walk(tree):
                if isinstance(node, ast.FunctionDef) and node.name in ("__exit__", "shut"):
                    found += 1
                    self.ending(node)
        self.assertGreater(found, 2)

    def test_ends_that_break_the_rule(self):
        kept = [("__exit__", "held = self.a; held.b = self.c; self.shut()"), ("__exit__", "self.a = self.b.c"),
                ("__exit__", "if kind is not None: self.a = self.b"), ("shut", "self.a = self.b.c; self.b = self.b.d")]
        broken = [("__exit__", rows) for rows in (
            "a = self.a; b = self.b", "a = self.a.b", "if value is None: self.a = self.b", "self.go()",
            "self.a = self.b = self.c", "self.a[0] = self.b", "self.a = self.b.c()", "return self.a")]
        broken += [("shut", "b = self.b; self.a = b.c"), ("shut", "b = self.b"), ("shut", "self.shut()")]
        for name, rows in kept:
            self.ending(function_of(name, rows))
        for name, rows in broken:
            with self.assertRaises(AssertionError, msg=rows):
                self.ending(function_of(name, rows))


class Interface(unittest.TestCase):
    def parameters(self, function, names):
        self.assertEqual(list(inspect.signature(function).parameters), names, function)

    def test_parameters(self):
        self.parameters(yards.Yard.read, ["text"])
        for module, functions in FUNCTIONS.items():
            for name, names in functions.items():
                self.parameters(getattr(module, name), names)
        for made, (names, methods, _) in CLASSES.items():
            self.parameters(made, names)
            for method, parameters in methods.items():
                self.parameters(getattr(made, method), ["self"] + parameters)

    def test_defined_where_they_are_listed(self):
        for module, functions in FUNCTIONS.items():
            for name in functions:
                self.assertEqual(getattr(module, name).__module__, module.__name__)
        self.assertIn("read", vars(yards.Yard))
        for made, (_, methods, properties) in CLASSES.items():
            self.assertTrue(made.__module__.startswith("swapkinds."))
            self.assertEqual(set(methods) - set(vars(made)), set())
            for name in properties:
                self.assertIsInstance(vars(made)[name], property)

    def test_nothing_but_classes_in_errors(self):
        tree = ast.parse(inspect.getsource(errors))
        self.assertEqual({node.__class__ for node in tree.body[1:]}, {ast.ClassDef})


if __name__ == "__main__":
    unittest.main()
