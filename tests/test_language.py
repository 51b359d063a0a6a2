"""The rules of the language that a look at the code can check."""

import ast
import builtins
import os
import unittest

ROOT = os.path.join(os.path.dirname(os.path.abspath(__file__)), os.pardir, "romwright")
BARRED = ("register", "mro", "elements", "open", "input", "law", "typing", "enum", "dataclass", "namedtuple", "Meta",
          "abstractmethod", "overload", "contextmanager")
DUNDERS = """__init__ __eq__ __len__ __iter__ __getitem__ __contains__ __enter__ __exit__ __call__ __add__ __sub__
__or__ __and__ __bool__ __lt__ __le__ __gt__ __ge__ __ne__ __setitem__""".split()
LISTED = """append clear copy count endswith extend find get index insert isalnum isalpha isdigit islower isspace
isupper items join keys ljust lower lstrip partition pop remove replace reverse rfind rjust rpartition rsplit rstrip
setdefault split splitlines startswith strip update upper values zfill bit_length add discard""".split()
NO_ATTRIBUTES = """items keys values pop update append clear extend insert remove reverse setdefault sort args encode
decode hex fromhex format""".split()
MODIFYING = "append clear extend insert pop remove reverse setdefault update add discard".split()
OTHERS = {"heapq": ("heappush", "heappop"), "itertools": ("product", "combinations", "permutations", "chain")}
STATEMENTS = (ast.Assign, ast.AugAssign, ast.If, ast.While, ast.For, ast.Return, ast.Break, ast.Continue, ast.Pass,
              ast.Raise, ast.Delete, ast.Try, ast.Expr, ast.FunctionDef, ast.ClassDef, ast.ImportFrom, ast.With)


def files():
    return sorted([name for name in os.listdir(ROOT) if name != "__pycache__"])


def text_of(name):
    with open(os.path.join(ROOT, name), encoding="utf-8") as file:
        return file.read()


TREES = {name: ast.parse(text_of(name)) for name in files()}


def nodes(kind):
    return [(name, node) for name in TREES for node in ast.walk(TREES[name]) if isinstance(node, kind)]


def root_of(node):
    while isinstance(node, (ast.Attribute, ast.Subscript)):
        node = node.value
    return node.id if isinstance(node, ast.Name) else None


def tokens(node):
    """The name that a path begins with, and the attribute that it ends in; of f(..).x and the like, what there is."""
    while isinstance(node, ast.Subscript):
        node = node.value
    end = ["." + node.attr] if isinstance(node, ast.Attribute) else []
    return end + [root_of(node)]


def is_setter(node):
    return any(ast.unparse(mark).endswith(".setter") for mark in node.decorator_list)


def roots(node):
    """The tokens of what a loop walks; a list(..) is another list."""
    if isinstance(node, ast.Call):
        if isinstance(node.func, ast.Name):
            return [] if node.func.id in ("list", "range", "sorted", "tuple") else [
                root for part in node.args for root in roots(part)]
        return tokens(node.func.value)
    return tokens(node)


def changes(statement):
    """The names through which a statement changes an item or an attribute, or a list."""
    found = []
    for node in ast.walk(statement):
        if isinstance(node, (ast.Attribute, ast.Subscript)) and not isinstance(node.ctx, ast.Load):
            found.extend(tokens(node))
        elif isinstance(node, ast.Call) and isinstance(node.func, ast.Attribute) and node.func.attr in MODIFYING:
            found.extend(tokens(node.func.value))
    return [name for name in found if name]


def aliases(function):
    """For names that are assigned each other, one name for all of them."""
    same = {}
    for node in ast.walk(function):
        if isinstance(node, ast.Assign) and isinstance(node.value, ast.Name):
            for target in node.targets:
                if isinstance(target, ast.Name):
                    old, new = (same.get(each, each) for each in (target.id, node.value.id))
                    same = {each: new if same[each] == old else same[each] for each in same}
                    same[target.id] = same[node.value.id] = new
    return same


class Language(unittest.TestCase):
    def none(self, wrong):
        self.assertEqual(list(wrong), [])

    def test_files(self):
        self.none([name for name in files() if not name.endswith(".py") or name != name.lower()])
        self.none([name for name in files() if hasattr(builtins, name[:-3]) and name != "__init__.py"])
        for name in files():
            text = text_of(name)
            self.assertLessEqual(text.count("\n"), 399, name)
            self.none([(name, line) for line in text.split("\n") if len(line) > 120])
            self.none([(name, sign) for sign in text if sign != "\n" and not " " <= sign <= "~"])

    def test_functions(self):
        for name, node in nodes(ast.FunctionDef):
            self.assertLessEqual(node.end_lineno - node.lineno + 1, 40, (name, node.name))
            if node.name.startswith("__"):
                self.assertIn(node.name, DUNDERS)
            for mark in node.decorator_list:
                self.assertIn(ast.unparse(mark), ("property", "staticmethod", "classmethod", f"{node.name}.setter"))

    def test_kinds_of_nodes(self):
        barred = (ast.AsyncFunctionDef, ast.Global, ast.Await, ast.GeneratorExp, ast.Div, ast.AnnAssign, ast.Starred,
                  ast.Nonlocal, ast.Set, ast.SetComp, ast.Import, ast.NamedExpr, ast.YieldFrom)
        self.none([(name, node.lineno) for name, node in nodes(barred) if hasattr(node, "lineno")])
        self.none([(name, "/") for name, node in nodes(ast.Div)])
        self.none([(name, node.lineno) for name, node in nodes(ast.stmt) if not isinstance(node, STATEMENTS)])
        for name, node in nodes(ast.Constant):
            self.assertFalse(isinstance(node.value, (float, complex, bytes)), name)
            self.assertFalse(isinstance(node.value, str) and "%" in node.value, name)

    def test_module_level(self):
        for name, tree in TREES.items():
            bound = []
            for node in tree.body:
                if isinstance(node, ast.Expr):
                    self.assertIsInstance(node.value, ast.Constant)
                elif isinstance(node, ast.ImportFrom):
                    bound.extend([alias.name for alias in node.names])
                    self.none([alias.asname for alias in node.names if alias.asname])
                elif isinstance(node, ast.Assign):
                    self.none([part for part in ast.walk(node.value) if isinstance(part, ast.Call)])
                    inner = [part for part in ast.walk(node.value) if isinstance(part, (ast.List, ast.Dict))]
                    self.assertLessEqual(len(inner), 1)
                    bound.append(node.targets[0].id)
                else:
                    bound.append(node.name)
            self.assertEqual(len(bound), len(set(bound)), name)

    def test_imports(self):
        after = {}
        for name, tree in TREES.items():
            after[name] = []
            for node in tree.body:
                if not isinstance(node, ast.ImportFrom):
                    continue
                self.assertEqual(node.level, 0)
                if node.module in OTHERS:
                    self.none([alias.name for alias in node.names if alias.name not in OTHERS[node.module]])
                    continue
                top, _, rest = node.module.partition(".")
                self.assertEqual(top, "romwright")
                after[name].append(rest + ".py")
                defined = [getattr(each, "name", None) or getattr(each.targets[0], "id") for each in
                           TREES[rest + ".py"].body if isinstance(each, (ast.ClassDef, ast.FunctionDef, ast.Assign))]
                self.none([alias.name for alias in node.names if alias.name not in defined])
                used = [each.id for each in ast.walk(tree) if isinstance(each, ast.Name)]
                self.none([(name, alias.name) for alias in node.names if alias.name not in used])
        gone = []
        while len(gone) < len(after):
            free = [name for name in after if name not in gone and all(each in gone for each in after[name])]
            self.assertNotEqual(free, [], "imports in a ring")
            gone.extend(free)

    def test_names(self):
        for name, tree in TREES.items():
            own = [node.name for node in tree.body if isinstance(node, ast.ClassDef)]
            own += [alias.name for node in tree.body if isinstance(node, ast.ImportFrom) for alias in node.names]
            told = [node.arg for node in ast.walk(tree) if isinstance(node, ast.arg)]
            told += [node.id for node in ast.walk(tree) if isinstance(node, ast.Name)
                     and not isinstance(node.ctx, ast.Load)]
            told += [node.name for node in ast.walk(tree) if isinstance(node, ast.ExceptHandler) and node.name]
            self.none([(name, each) for each in told if each in own])
            told += [node.name for node in tree.body if isinstance(node, (ast.ClassDef, ast.FunctionDef))]
            self.none([(name, each) for each in told if hasattr(builtins, each) or each in BARRED])
            self.none([(name, each) for each in told if each.startswith("_") and each != "_"])

    def test_words(self):
        for name, node in nodes((ast.Name, ast.Attribute, ast.arg, ast.FunctionDef, ast.Constant)):
            word = getattr(node, "id", None) or getattr(node, "attr", None) or getattr(node, "arg", None)
            self.assertNotIn(word or getattr(node, "name", None), BARRED + ("type", "_record"), name)
            if isinstance(node, ast.Constant) and isinstance(node.value, str):
                self.none([(name, each) for each in BARRED if each in node.value.split()])
        self.none([name for name in files() if "(type)" in text_of(name) or "Meta" in text_of(name)])

    def test_methods_and_attributes(self):
        methods = [(each.name, node) for _, each in nodes(ast.ClassDef) for node in each.body
                   if isinstance(node, ast.FunctionDef) and not is_setter(node)]
        setters = {node.name for _, node in nodes(ast.FunctionDef) if is_setter(node)}
        properties = [node.name for _, node in methods if node.decorator_list
                      and ast.unparse(node.decorator_list[0]) == "property"]
        stored = {node.attr for _, node in nodes(ast.Attribute) if isinstance(node.ctx, ast.Store)}
        read = {node.attr for _, node in nodes(ast.Attribute)}
        plain = {node.name for _, node in methods if node.name not in properties}
        self.none(sorted(stored & set(NO_ATTRIBUTES)))
        self.none(sorted(set(properties) & ((stored - setters) | plain)))
        # The interface has these as methods of one class and as attributes of others.
        self.none(sorted((plain & stored) - {"address"}))
        own = dir("") + dir(0) + dir([]) + dir({}) + dir(set()) + dir(b"")
        names = [name for name in own if not name.startswith("__")]
        self.none(sorted([name for name in plain if name in names and name not in LISTED]))
        known = stored | plain | set(properties) | set(LISTED) | {"__init__", "setter"}
        self.none(sorted(read - known))
        rest = [node.name for _, tree in TREES.items() for node in tree.body if isinstance(node, ast.FunctionDef)]
        self.assertEqual(len(rest), len(set(rest)), sorted([name for name in rest if rest.count(name) > 1]))

    def test_getitem_and_iter(self):
        for name, node in nodes(ast.ClassDef):
            names = [each.name for each in node.body if isinstance(each, ast.FunctionDef) and not is_setter(each)]
            if "__getitem__" in names:
                self.assertIn("__iter__", names, node.name)
            self.assertEqual(len(set(names)), len(names), node.name)

    def test_loops(self):
        """What a loop walks is not changed in it: not by a name that may mean the same list, nor through its object."""
        for name, function in nodes(ast.FunctionDef):
            same = aliases(function)
            for loop in ast.walk(function):
                if not isinstance(loop, ast.For):
                    continue
                walked = {same.get(root, root) for root in roots(loop.iter)}
                changed = {same.get(root, root) for each in loop.body for root in changes(each)}
                self.none([(name, loop.lineno, root) for root in sorted(walked & changed)])

    def test_errors(self):
        own = [node.name for name in ("plain.py", "wording.py") for node in TREES[name].body
               if isinstance(node, ast.ClassDef)]
        for name, node in nodes(ast.ExceptHandler):
            self.assertIn(ast.unparse(node.type), own + ["KeyError", "ZeroDivisionError"])
        for name, node in nodes(ast.Raise):
            if node.exc is None:
                continue
            self.assertIsInstance(node.exc, ast.Call)
            self.assertIn(node.exc.func.id, own + ["TypeError"])

    def test_orders(self):
        """Beside classes that compare, only plain numbers and texts are sorted by the builtins."""
        for name, node in nodes(ast.Call):
            if isinstance(node.func, ast.Name) and node.func.id in ("sorted", "min", "max"):
                place = (name, node.lineno)
                self.assertEqual(node.keywords, [], place)
                if len(node.args) == 1:
                    self.assertEqual(node.func.id, "sorted", place)
                    self.assertTrue(ast.unparse(node.args[0]).startswith("set("), place)
                else:
                    self.assertTrue(any([isinstance(part, ast.Constant) for part in node.args]), place)

    def test_calls(self):
        for name, node in nodes(ast.Call):
            if isinstance(node.func, ast.Attribute):
                self.assertNotIn(node.func.attr, ("sort", "intersection", "union"))
            elif isinstance(node.func, ast.Name):
                self.assertNotIn(node.func.id, ("chr", "print", "filter", "map", "type", "round"), name)
                if node.func.id == "reversed":
                    self.assertEqual(ast.unparse(node.args[0].func) in ("list", "range", "sorted", "tuple"), True)


if __name__ == "__main__":
    unittest.main()
