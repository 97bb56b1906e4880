"""The rules of the language, as far as a look at the files can tell."""

import ast
import builtins
import os
import re
import unittest

ROOT = os.path.join(os.path.dirname(os.path.dirname(os.path.abspath(__file__))), "ledalong")
BUILTINS = set("""len range enumerate zip min max sum abs sorted reversed int str bool list tuple dict set isinstance ord repr
any all divmod ValueError TypeError iter staticmethod property""".split())
METHODS = set("""append count endswith extend find get index insert isdigit isascii items join keys pop split startswith
bit_length setdefault values""".split())
BARRED = re.compile(r"\b(type|typing|enum|Enum|Flag|Generic|Protocol|ABC|namedtuple|register|mro|elements|open|input|law)\b")
ON_THE_SPOT = ("range", "zip", "enumerate", "reversed")
TAKERS = ("list", "tuple", "dict", "sorted", "sum", "any", "all", "enumerate", "zip", "min", "max", "len", "reversed")
VIEWS = ("items", "keys", "values")
STATEMENTS = (ast.Import, ast.Global, ast.AsyncFunctionDef, ast.AsyncFor, ast.AsyncWith, ast.Await, ast.Yield, ast.YieldFrom,
              ast.GeneratorExp, ast.AugAssign, ast.With)
LIBRARY = {"math": {"gcd", "lcm", "isqrt", "comb", "perm", "factorial"}}
PLAIN = (ast.List, ast.ListComp, ast.Dict)
CHANGING = ("append", "clear", "extend", "insert", "pop", "remove", "reverse", "setdefault", "update", "sort")


def files():
    """The text and the tree of each file."""
    for name in sorted(os.listdir(ROOT)):
        if name != "__pycache__":
            with open(os.path.join(ROOT, name), encoding="ascii") as file:
                text = file.read()
            yield name, text, ast.parse(text)


def called(node):
    """The name of the function that is called by it, or None."""
    return node.func.id if isinstance(node, ast.Call) and isinstance(node.func, ast.Name) else None


def with_parents(tree):
    """Pairs of each node and the one around it."""
    for node in ast.walk(tree):
        for child in ast.iter_child_nodes(node):
            yield child, node


def changed_in(tree):
    """The names of what is changed there: by an item, an attribute, or a method."""
    found = set()
    for node in ast.walk(tree):
        if isinstance(node, (ast.Subscript, ast.Attribute)) and isinstance(node.ctx, (ast.Store, ast.Del)):
            found.add(node.value)
        if isinstance(node, ast.Call) and isinstance(node.func, ast.Attribute) and node.func.attr in CHANGING:
            found.add(node.func.value)
    return {getattr(node, "id", ast.dump(node)) for node in found}


def is_quiet(method):
    """Whether a method of a class is one that changes nothing: a property or an operator."""
    if method.decorator_list:
        return method.decorator_list[0].id == "property"
    return method.name.startswith("__") and method.name not in ("__init__", "__call__", "__iadd__")


def is_table(tree, value):
    """Whether a value at module level is a dict of functions of the file."""
    own = {node.name for node in tree.body if isinstance(node, ast.FunctionDef)}
    return (isinstance(value, ast.Dict) and all(isinstance(key, ast.Constant) for key in value.keys)
            and all(isinstance(part, ast.Name) and part.id in own for part in value.values))


class Language(unittest.TestCase):

    def test_files_and_sizes(self):
        for name, text, tree in files():
            self.assertRegex(name, r"^[a-z_]+\.py$")
            self.assertLessEqual(len(text.splitlines()), 399)
            self.assertNotIn("\t", text)
            for row in text.splitlines():
                self.assertLessEqual(len(row), 120, (name, row))
            for node in ast.walk(tree):
                if isinstance(node, ast.FunctionDef):
                    self.assertLessEqual(node.end_lineno - node.lineno + 1, 40, (name, node.name))

    def test_imports(self):
        defined, imports = {}, {}
        for name, _, tree in files():
            module = "ledalong." + name[:-3]
            defined[module] = {node.name for node in tree.body if isinstance(node, (ast.FunctionDef, ast.ClassDef))}
            defined[module] |= {node.targets[0].id for node in tree.body if isinstance(node, ast.Assign)}
            imports[module] = [(node.module, alias) for node in tree.body if isinstance(node, ast.ImportFrom)
                               for alias in node.names]
        for module, found in imports.items():
            for source, alias in found:
                self.assertIn(alias.name, LIBRARY.get(source) or defined[source], module)
                self.assertIsNone(alias.asname)
        left = {module: {source for source, _ in found} for module, found in imports.items()}
        while left:
            free = [module for module in left if not left[module] & set(left)]
            self.assertTrue(free, "files import one another")
            left = {module: left[module] for module in left if module not in free}

    def test_module_level(self):
        for name, _, tree in files():
            for node in tree.body:
                plain = isinstance(node, (ast.ImportFrom, ast.FunctionDef, ast.ClassDef))
                plain = plain or isinstance(node, (ast.Expr, ast.Assign)) and isinstance(node.value, ast.Constant)
                plain = plain or isinstance(node, ast.Assign) and is_table(tree, node.value)
                self.assertTrue(plain, (name, node.lineno))

    def test_nodes(self):
        for name, _, tree in files():
            for node in ast.walk(tree):
                self.assertNotIsInstance(node, STATEMENTS, (name, getattr(node, "lineno", 0)))
                if isinstance(node, ast.Constant):
                    self.assertNotIsInstance(node.value, (float, bytes, complex))
                if isinstance(node, ast.BinOp):
                    self.assertNotIsInstance(node.op, ast.Div)
                    if isinstance(node.op, ast.Pow):
                        self.assertIsInstance(node.right, ast.Constant)
                if isinstance(node, ast.Compare) and isinstance(node.ops[0], (ast.Is, ast.IsNot)):
                    self.assertIsInstance(node.comparators[0], ast.Constant)

    def test_names(self):
        for name, _, tree in files():
            own = {node.name for node in tree.body if isinstance(node, (ast.FunctionDef, ast.ClassDef))}
            classes = {node.name for node in tree.body if isinstance(node, ast.ClassDef)}
            imported = {alias.name for node in tree.body if isinstance(node, ast.ImportFrom) for alias in node.names}
            bound = {node.id for node in ast.walk(tree) if isinstance(node, ast.Name) and isinstance(node.ctx, ast.Store)}
            bound |= {node.arg for node in ast.walk(tree) if isinstance(node, ast.arg)}
            bound |= {node.name for node in ast.walk(tree) if isinstance(node, ast.ExceptHandler) and node.name}
            self.assertFalse(bound & (imported | classes), name)
            self.assertFalse((bound | own) & set(dir(builtins)) - {"_"}, name)
            self.assertFalse((bound | own) & set.union(*LIBRARY.values()), name)
            read = {node.id for node in ast.walk(tree) if isinstance(node, ast.Name) and isinstance(node.ctx, ast.Load)}
            self.assertFalse(read - bound - own - imported - BUILTINS, name)
            self.assertNotIn("_", read)
            self.assertFalse(imported - read, name)

    def test_methods(self):
        classes = [node for _, _, tree in files() for node in tree.body if isinstance(node, ast.ClassDef)]
        own = {node.name for made in classes for node in made.body if isinstance(node, ast.FunctionDef)}
        held = {node.attr for made in classes for node in ast.walk(made) if isinstance(node, ast.Attribute)
                and isinstance(node.ctx, ast.Store)}
        self.assertFalse(own & (METHODS | held))
        for name, _, tree in files():
            for node in ast.walk(tree):
                if isinstance(node, ast.Call) and isinstance(node.func, ast.Attribute):
                    self.assertIn(node.func.attr, METHODS | own, (name, node.lineno))
                    self.assertFalse(node.keywords)

    def test_errors_that_are_caught(self):
        errors = next(tree for name, _, tree in files() if name == "errors.py")
        own = {node.name for node in errors.body if isinstance(node, ast.ClassDef)}
        for name, _, tree in files():
            for node in ast.walk(tree):
                if isinstance(node, ast.Try):
                    self.assertFalse(node.finalbody + node.orelse, name)
                    self.assertEqual((len(node.body), len(node.handlers)), (1, 1), name)
                    self.assertIn(node.handlers[0].type.id, own, name)
                if isinstance(node, ast.Raise):
                    self.assertIn(called(node.exc), own | {"TypeError"}, name)

    def test_sets_and_what_is_iterated_at_once(self):
        for name, _, tree in files():
            for node, around in with_parents(tree):
                where = (name, getattr(node, "lineno", 0))
                if isinstance(node, (ast.Set, ast.SetComp)) or called(node) in ("set", "frozenset"):
                    fine = called(around) in ("sorted", "len") or isinstance(around, (ast.BinOp, ast.Compare))
                    self.assertTrue(fine, where)
                if called(node) in ON_THE_SPOT or isinstance(node, ast.Call) and getattr(node.func, "attr", "") in VIEWS:
                    fine = isinstance(around, (ast.For, ast.comprehension)) or called(around) in TAKERS
                    self.assertTrue(fine, where)

    def test_lambdas_on_one_line(self):
        for name, _, tree in files():
            told = [(node.lineno, tuple(arg.arg for arg in node.args.args)) for node in ast.walk(tree)
                    if isinstance(node, ast.Lambda)]
            self.assertEqual(len(set(told)), len(told), name)

    def test_what_is_iterated_is_not_changed(self):
        for name, _, tree in files():
            for loop in ast.walk(tree):
                if isinstance(loop, ast.For):
                    over = {node.id for node in ast.walk(loop.iter) if isinstance(node, ast.Name)}
                    changed = {owner for part in loop.body for owner in changed_in(part)}
                    self.assertFalse(over & changed, (name, loop.lineno))

    def test_what_operators_and_properties_run(self):
        functions = {node.name: node for _, _, tree in files() for node in tree.body if isinstance(node, ast.FunctionDef)}
        left = [node for _, _, tree in files() for made in tree.body if isinstance(made, ast.ClassDef) for node in made.body
                if isinstance(node, ast.FunctionDef) and is_quiet(node)]
        self.assertGreater(len(left), 40)
        seen = set()
        while left:
            function = left.pop()
            fresh = {target.id for node in ast.walk(function) if isinstance(node, ast.Assign) for target in node.targets
                     if isinstance(target, ast.Name) and (isinstance(node.value, PLAIN) or called(node.value) in ("list", "dict"))}
            self.assertFalse(changed_in(function) - fresh, function.name)
            for node in ast.walk(function):
                self.assertNotIn(called(node), {arg.arg for arg in function.args.args}, function.name)
                if called(node) in functions and called(node) not in seen:
                    seen.add(called(node))
                    left.append(functions[called(node)])

    def test_words_and_strings(self):
        for name, text, tree in files():
            docs = {node.body[0].value for node in ast.walk(tree)
                    if isinstance(node, (ast.Module, ast.ClassDef, ast.FunctionDef)) and ast.get_docstring(node) is not None}
            for node in ast.walk(tree):
                if isinstance(node, ast.Constant) and isinstance(node.value, str):
                    self.assertNotIn("%", node.value)
                    if node not in docs:
                        self.assertIsNone(BARRED.search(node.value), (name, node.lineno))
                for word in (getattr(node, "id", ""), getattr(node, "attr", ""), getattr(node, "arg", "")):
                    self.assertIsNone(BARRED.search(word or ""), (name, word))

    def test_doc_strings(self):
        for name, _, tree in files():
            self.assertIsNotNone(ast.get_docstring(tree), name)
            for node in ast.walk(tree):
                if isinstance(node, (ast.FunctionDef, ast.ClassDef)) and not node.name.startswith("__"):
                    self.assertIsNotNone(ast.get_docstring(node), (name, node.name))


if __name__ == "__main__":
    unittest.main()
