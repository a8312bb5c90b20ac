"""The form of the code of the package: the rules of the language subset that can be read off the files."""

import ast
import builtins
import pathlib
import re
import unittest

PACKAGE = pathlib.Path(__file__).resolve().parent.parent / "keptparts"
BUILTINS = set(
    "len range enumerate zip min max sum abs sorted reversed int str bool bytes list tuple dict set isinstance ord"
    " repr any all divmod iter property staticmethod classmethod super ValueError NotImplemented".split()
)
METHODS = set(
    "append clear copy count endswith extend find get index insert isalnum isalpha isdigit islower isspace isupper"
    " items join keys ljust lower lstrip partition pop remove replace reverse rfind rjust rpartition rsplit rstrip"
    " setdefault split splitlines startswith strip update upper values zfill bit_length add discard".split()
)
DUNDERS = set(
    "__init__ __eq__ __repr__ __str__ __len__ __enter__ __exit__ __call__ __iter__ __add__ __sub__ __mul__ __and__"
    " __or__ __neg__ __invert__ __contains__ __getitem__".split()
)
STATEMENTS = (
    ast.Assign, ast.AugAssign, ast.If, ast.While, ast.For, ast.Return, ast.Break, ast.Continue, ast.Pass, ast.Raise,
    ast.Expr, ast.FunctionDef, ast.Delete, ast.With,
)
ONCE = ("zip", "enumerate", "reversed", "range")
TAKERS = ("list", "tuple", "dict", "sorted", "sum", "any", "all", "enumerate", "zip", "min", "max")


def files():
    return sorted(PACKAGE.glob("*.py"))


def trees():
    return [(path.name, ast.parse(path.read_text())) for path in files()]


def functions(tree):
    return [node for node in ast.walk(tree) if isinstance(node, ast.FunctionDef)]


def parents(tree):
    return {child: node for node in ast.walk(tree) for child in ast.iter_child_nodes(node)}


def called(node):
    return node.func.id if isinstance(node, ast.Call) and isinstance(node.func, ast.Name) else None


def is_generator(function):
    return any(isinstance(node, (ast.Yield, ast.YieldFrom)) for node in ast.walk(function))


def own_names():
    names = set()
    for _, tree in trees():
        names |= {node.name for node in ast.walk(tree) if isinstance(node, (ast.FunctionDef, ast.ClassDef))}
    return names


def names_called(function):
    """The names that a function calls, bare ones and those of methods."""
    calls = [node.func for node in ast.walk(function) if isinstance(node, ast.Call)]
    return {node.id if isinstance(node, ast.Name) else getattr(node, "attr", "") for node in calls}


def stores_in_objects(function):
    """Whether a function assigns or deletes an attribute, or an item of an attribute."""
    for node in ast.walk(function):
        if isinstance(node, ast.Attribute) and not isinstance(node.ctx, ast.Load):
            return True
        if isinstance(node, ast.Subscript) and isinstance(node.value, ast.Attribute):
            if not isinstance(node.ctx, ast.Load):
                return True
    return False


def changing_names():
    """The names of all functions and methods that change an object, by themselves or by what they call.

    A method counts by its name, whatever class the object has. What an __init__ gives its own object is no change.
    """
    found = [function for _, tree in trees() for function in functions(tree) if function.name != "__init__"]
    names = {function.name for function in found if stores_in_objects(function)}
    size = -1
    while size < len(names):
        size = len(names)
        names |= {function.name for function in found if names_called(function) & names}
    return names


def is_reading(function):
    """Whether a function is an operator, a property or one of their kind, none of which changes anything."""
    marks = [ast.unparse(decorator) for decorator in function.decorator_list]
    special = function.name in DUNDERS - {"__init__", "__enter__", "__exit__", "__call__"}
    return special or "property" in marks


class Form(unittest.TestCase):
    def test_files(self):
        for path in PACKAGE.iterdir():
            if path.name != "__pycache__":
                self.assertRegex(path.name, r"^[a-z_][a-z0-9_]*\.py$")

    def test_lines(self):
        for path in files():
            lines = path.read_text().split("\n")
            self.assertLess(len(lines), 400, path.name)
            for line in lines:
                self.assertLessEqual(len(line), 120, path.name)
                self.assertRegex(line, r"^[ -~]*$", path.name)

    def test_lengths_of_functions(self):
        for name, tree in trees():
            for function in functions(tree):
                self.assertLessEqual(function.end_lineno - function.lineno + 1, 40, (name, function.name))

    def test_imports(self):
        before = []
        graph = {}
        for name, tree in trees():
            module = "keptparts." + name[:-3]
            graph[module] = []
            for node in ast.walk(tree):
                self.assertNotIsInstance(node, ast.Import, name)
                if isinstance(node, ast.ImportFrom):
                    self.assertIn(node, tree.body)
                    self.assertEqual(node.level, 0)
                    self.assertTrue((PACKAGE / (node.module.split(".")[1] + ".py")).exists())
                    self.assertTrue(all(alias.asname is None and alias.name != "*" for alias in node.names))
                    graph[module].append(node.module)
        while graph:
            free = [module for module, rest in graph.items() if all(other in before for other in rest)]
            self.assertTrue(free, "files import from each other")
            before.extend(free)
            for module in free:
                del graph[module]

    def test_imports_are_used_and_defined_where_they_come_from(self):
        for name, tree in trees():
            words = re.findall(r"\w+", (PACKAGE / name).read_text())
            for node in tree.body:
                if isinstance(node, ast.ImportFrom):
                    source = ast.parse((PACKAGE / (node.module.split(".")[1] + ".py")).read_text())
                    defined = {item.name for item in source.body if hasattr(item, "name")}
                    defined |= {item.targets[0].id for item in source.body if isinstance(item, ast.Assign)}
                    for alias in node.names:
                        self.assertIn(alias.name, defined)
                        self.assertGreater(words.count(alias.name), 1, (name, alias.name))

    def test_module_level(self):
        allowed = (ast.ImportFrom, ast.FunctionDef, ast.ClassDef, ast.Assign)
        for name, tree in trees():
            self.assertTrue(ast.get_docstring(tree), name)
            bound = []
            for node in tree.body[1:]:
                self.assertIsInstance(node, allowed, name)
                if isinstance(node, ast.Assign):
                    self.assertEqual(len(node.targets), 1)
                    ast.literal_eval(node.value)
                    bound.append(node.targets[0].id)
                elif isinstance(node, ast.ImportFrom):
                    bound.extend(alias.name for alias in node.names)
                else:
                    bound.append(node.name)
            self.assertEqual(len(bound), len(set(bound)), name)

    def test_statements(self):
        for name, tree in trees():
            for function in functions(tree):
                for node in ast.walk(function):
                    if isinstance(node, ast.stmt):
                        self.assertIsInstance(node, STATEMENTS, (name, node.lineno))

    def test_expressions(self):
        barred = (ast.GeneratorExp, ast.Await, ast.NamedExpr, ast.Lambda, ast.Set)
        for name, tree in trees():
            for node in ast.walk(tree):
                self.assertNotIsInstance(node, barred, (name, getattr(node, "lineno", 0)))
                self.assertNotIsInstance(node, (ast.Div, ast.MatMult, ast.Pow), name)
                if isinstance(node, ast.Constant):
                    self.assertNotIsInstance(node.value, (float, complex), name)
                    if isinstance(node.value, str):
                        self.assertNotIn("%", node.value)
                        self.assertNotIn("type", node.value)
                if isinstance(node, ast.Compare):
                    for operator, right in zip(node.ops, node.comparators):
                        if isinstance(operator, (ast.Is, ast.IsNot)):
                            self.assertIsInstance(right, ast.Constant)

    def test_decorators(self):
        for name, tree in trees():
            for node in ast.walk(tree):
                if isinstance(node, (ast.FunctionDef, ast.ClassDef)):
                    for decorator in node.decorator_list:
                        allowed = ("property", "staticmethod", "classmethod", "wanted.setter")
                        self.assertIn(ast.unparse(decorator), allowed, name)

    def test_names(self):
        for name, tree in trees():
            given = set()
            for node in ast.walk(tree):
                if isinstance(node, ast.ImportFrom):
                    given |= {alias.name for alias in node.names}
                if isinstance(node, ast.ClassDef):
                    given.add(node.name)
            for function in functions(tree):
                local = {arg.arg for arg in ast.walk(function) if isinstance(arg, ast.arg)}
                stores = [node for node in ast.walk(function) if isinstance(node, ast.Name)]
                local |= {node.id for node in stores if isinstance(node.ctx, ast.Store)}
                self.assertEqual(local & given, set(), (name, function.name))
                self.assertEqual(local & set(dir(builtins)) - {"_"}, set(), (name, function.name))
                if function.name.startswith("__"):
                    self.assertIn(function.name, DUNDERS)
                elif function.name not in dir(builtins):
                    self.assertRegex(function.name, r"^_?[a-z][a-z0-9_]*$")

    def test_calls(self):
        own = own_names()
        for name, tree in trees():
            for node in ast.walk(tree):
                if not isinstance(node, ast.Call):
                    continue
                if isinstance(node.func, ast.Name) and node.func.id not in own | {"cls"}:
                    self.assertIn(node.func.id, BUILTINS, (name, node.lineno))
                if isinstance(node.func, ast.Attribute) and node.func.attr not in own:
                    self.assertIn(node.func.attr, METHODS, (name, node.lineno))

    def test_iterated_at_once(self):
        for name, tree in trees():
            above = parents(tree)
            makers = {
                function.name for _, other in trees() for function in functions(other) if is_generator(function)
            }
            for node in ast.walk(tree):
                word = called(node)
                if word in ONCE or word in makers:
                    parent = above[node]
                    looped = isinstance(parent, (ast.For, ast.comprehension)) and parent.iter is node
                    taken = called(parent) in TAKERS and parent.args[0] is node
                    taken = taken or called(parent) == "reversed" and word == "range"
                    sent = isinstance(parent, ast.YieldFrom)
                    tested = isinstance(parent, ast.Compare) and word == "range"
                    self.assertTrue(looped or taken or sent or tested, (name, node.lineno))

    def test_sets_are_stored_once(self):
        for name, tree in trees():
            above = parents(tree)
            for node in ast.walk(tree):
                if called(node) != "set" and not isinstance(node, ast.SetComp):
                    continue
                parent = above[node]
                while isinstance(parent, ast.BinOp):
                    parent = above[parent]
                stored = isinstance(parent, ast.Assign) and isinstance(parent.targets[0], ast.Name)
                placed = called(parent) in ("sorted", "len") or isinstance(parent, ast.Compare)
                self.assertTrue(stored or placed, (name, node.lineno))

    def test_ends_of_blocks(self):
        """An __exit__ only gives attributes other attributes, names and literals."""
        found = 0
        for name, tree in trees():
            for function in functions(tree):
                if function.name != "__exit__":
                    continue
                found += 1
                for node in function.body:
                    self.assertIsInstance(node, ast.Assign)
                    self.assertIsInstance(node.value, (ast.Attribute, ast.Name, ast.Constant))
                    if isinstance(node.value, ast.Attribute):
                        self.assertIsInstance(node.value.value, ast.Name)
        self.assertEqual(found, 1)

    def test_lengths_and_iterations(self):
        """A __len__ is one len(..), and an __iter__ one iter(..) of an attribute."""
        for name, tree in trees():
            for function in functions(tree):
                word = {"__len__": "len", "__iter__": "iter"}.get(function.name)
                if word is not None:
                    self.assertEqual(len(function.body), 1)
                    self.assertEqual(called(function.body[0].value), word)
                    self.assertIsInstance(function.body[0].value.args[0], ast.Attribute)

    def test_properties_only_read(self):
        for name, tree in trees():
            for function in functions(tree):
                if "property" in [ast.unparse(decorator) for decorator in function.decorator_list]:
                    self.assertFalse([node for node in ast.walk(function) if isinstance(node, (ast.Assign, ast.For))])

    def test_operators_change_nothing(self):
        """No operator, property or the like calls what counts as changing an object, through what it calls neither."""
        changing = changing_names()
        self.assertTrue({"lose", "find", "buy", "back", "_take"} <= changing)
        found = 0
        for name, tree in trees():
            for function in functions(tree):
                if is_reading(function):
                    found += 1
                    self.assertFalse(stores_in_objects(function), (name, function.lineno))
                    self.assertEqual(names_called(function) & changing, set(), (name, function.lineno))
        self.assertGreater(found, 30)

    def test_words(self):
        for path in files():
            text = path.read_text()
            for word in ("_wall", "_WallAttr", "Meta", "(type)"):
                self.assertNotIn(word, text)


if __name__ == "__main__":
    unittest.main()
