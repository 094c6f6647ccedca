"""Checks of the package's source against the rules of LANGUAGE.md that a reader of the syntax tree can see."""

import ast
import builtins
import os
import re
import unittest

ROOT = os.path.dirname(os.path.dirname(os.path.abspath(__file__)))
PACKAGE = os.path.join(ROOT, "newesttells")
LIBRARY = {"heapq": {"heappush", "heappop", "heapify", "heapreplace", "heappushpop"},
           "math": {"gcd", "lcm", "isqrt", "comb", "perm", "factorial"},
           "itertools": {"product", "combinations", "permutations"}}
ALLOWED_BUILTINS = set("""len range enumerate zip min max sum abs sorted reversed int str bool bytes list tuple dict set
frozenset isinstance ord repr any all divmod iter next map super property staticmethod classmethod object
Exception ValueError TypeError KeyError IndexError LookupError ZeroDivisionError ArithmeticError OverflowError
RuntimeError NotImplementedError AttributeError StopIteration NotImplemented""".split())
DUNDERS = set("""__init__ __eq__ __repr__ __str__ __len__ __enter__ __exit__ __call__ __iter__ __lt__ __le__ __gt__
__ge__ __ne__ __add__ __sub__ __mul__ __floordiv__ __mod__ __pow__ __and__ __or__ __xor__ __lshift__ __rshift__
__radd__ __rsub__ __rmul__ __neg__ __pos__ __invert__ __abs__ __bool__ __contains__ __getitem__ __setitem__""".split())
BUILTIN_METHODS = set("""append clear copy count endswith extend find get index insert isalnum isalpha isdigit islower
isspace isupper items join keys ljust lower lstrip partition pop remove replace reverse rfind rjust rpartition rsplit
rstrip setdefault split splitlines startswith strip update upper values zfill bit_length add discard sort title
capitalize swapcase casefold center expandtabs removeprefix removesuffix rindex isascii isdecimal isnumeric istitle
isidentifier isprintable translate""".split())
BARRED_WORDS = set("""type typing typing_extensions enum Enum IntEnum StrEnum Flag IntFlag Generic Protocol ABC ABCMeta
namedtuple NamedTuple TypedDict TYPE_CHECKING abstractmethod""".split())
BARRED_NAMES = set("""register mro elements open input law version_info with_traceback add_note attrgetter breakpoint
builtins compile copyright credits delattr dir eval exec exit gc getattr globals hasattr help id importlib license
locals methodcaller os quit setattr type vars""".split())
BARRED_ATTRIBUTES = set("register mro elements open input law version_info with_traceback add_note format format_map"
                        .split())
CHANGING = set("append clear extend insert pop remove reverse setdefault update add discard sort".split())


def files():
    return sorted(name for name in os.listdir(PACKAGE) if name.endswith(".py"))


def source(name):
    with open(os.path.join(PACKAGE, name), encoding="utf-8") as file:
        return file.read()


def trees():
    return {name: ast.parse(source(name)) for name in files()}


def functions_of(tree):
    return [node for node in ast.walk(tree) if isinstance(node, ast.FunctionDef)]


def own_methods(all_trees):
    methods = set()
    for tree in all_trees.values():
        for node in ast.walk(tree):
            if isinstance(node, ast.ClassDef):
                methods.update(part.name for part in node.body if isinstance(part, ast.FunctionDef))
    return methods


def names_assigned(function):
    found = set(arg.arg for arg in ast.walk(function.args) if isinstance(arg, ast.arg))
    for node in ast.walk(function):
        if isinstance(node, ast.Name) and isinstance(node.ctx, ast.Store):
            found.add(node.id)
        if isinstance(node, ast.ExceptHandler) and node.name:
            found.add(node.name)
        if isinstance(node, ast.arg):
            found.add(node.arg)
        if isinstance(node, ast.FunctionDef) and node is not function:
            found.add(node.name)
    return found


def module_bindings(tree):
    """The names that a module binds, once for each binding; and those of them that are classes or imports."""
    bound, special = [], set()
    for node in tree.body:
        if isinstance(node, ast.ImportFrom):
            bound.extend(alias.name for alias in node.names)
            special.update(alias.name for alias in node.names)
        elif isinstance(node, ast.ClassDef):
            bound.append(node.name)
            special.add(node.name)
        elif isinstance(node, ast.FunctionDef):
            bound.append(node.name)
        elif isinstance(node, ast.Assign):
            bound.extend(target.id for target in node.targets)
    return bound, special


class LanguageTest(unittest.TestCase):
    def check_nodes(self, rule, wrong):
        """Fails with the places of all nodes for which wrong(node) holds."""
        places = []
        for name, tree in trees().items():
            places.extend(f"{name}:{node.lineno}" for node in ast.walk(tree) if hasattr(node, "lineno") and wrong(node))
        self.assertEqual(places, [], rule)

    def test_l1_files(self):
        others = [name for name in os.listdir(PACKAGE) if not name.endswith(".py") and name != "__pycache__"]
        self.assertEqual(others, [])
        self.assertIn("__init__.py", files())
        for name in files():
            self.assertRegex(name, r"^[a-z0-9_]+\.py$")

    def test_l2_imports(self):
        for name, tree in trees().items():
            for node in ast.walk(tree):
                self.assertNotIsInstance(node, ast.Import, name)
                if isinstance(node, ast.ImportFrom):
                    self.assertIn(node, tree.body, name)
                    self.check_import(name, node)

    def check_import(self, name, node):
        self.assertEqual(node.level, 0, name)
        self.assertTrue(all(alias.asname is None and alias.name != "*" for alias in node.names), name)
        if node.module in LIBRARY:
            self.assertTrue({alias.name for alias in node.names} <= LIBRARY[node.module], name)
            return
        self.assertTrue(node.module.startswith("newesttells."), name)
        defined, special = module_bindings(ast.parse(source(node.module.split(".")[1] + ".py")))
        imported = {alias.name for alias in node.names}
        self.assertTrue(imported <= set(defined), f"{name}: {node.module}")
        home = ast.parse(source(node.module.split(".")[1] + ".py"))
        passed_on = {alias.name for part in home.body if isinstance(part, ast.ImportFrom) for alias in part.names}
        self.assertEqual(imported & passed_on, set(), f"L16, {name}: {node.module}")

    def test_l16_no_cycles(self):
        needs = {name: [node.module.split(".")[1] + ".py" for node in ast.walk(tree)
                        if isinstance(node, ast.ImportFrom) and node.module.startswith("newesttells.")]
                 for name, tree in trees().items()}
        done = set()
        while len(done) < len(needs):
            ready = [name for name in needs if name not in done and set(needs[name]) <= done]
            self.assertTrue(ready, f"a cycle among {sorted(set(needs) - done)}")
            done.update(ready)

    def test_imports_are_used(self):
        for name, tree in trees().items():
            used = {node.id for node in ast.walk(tree) if isinstance(node, ast.Name)}
            for node in tree.body:
                if isinstance(node, ast.ImportFrom):
                    self.assertEqual({alias.name for alias in node.names} - used, set(), name)

    def test_l3_module_level(self):
        kinds = (ast.ImportFrom, ast.FunctionDef, ast.ClassDef, ast.Assign)
        for name, tree in trees().items():
            for at, node in enumerate(tree.body):
                docstring = at == 0 and isinstance(node, ast.Expr) and isinstance(node.value, ast.Constant)
                self.assertTrue(docstring or isinstance(node, kinds), f"{name}:{node.lineno}")
                if isinstance(node, ast.Assign):
                    self.assertEqual(len(node.targets), 1)
                    self.assertIsInstance(node.targets[0], ast.Name)

    def test_l4_l5_functions_and_classes(self):
        for name, tree in trees().items():
            for node in ast.walk(tree):
                if isinstance(node, ast.ClassDef):
                    self.assertEqual(node.decorator_list, [], name)
                    self.assertIn(node, tree.body, name)
                if isinstance(node, ast.FunctionDef):
                    self.check_function(name, node)

    def check_function(self, name, node):
        place = f"{name}:{node.lineno}"
        allowed = ("property", "staticmethod", "classmethod", f"{node.name}.setter")
        self.assertTrue(all(ast.unparse(decorator) in allowed for decorator in node.decorator_list), place)
        if node.name.startswith("__"):
            self.assertIn(node.name, DUNDERS, place)
        arguments = [arg.arg for arg in node.args.args]
        if node.name in ("__add__", "__mul__", "__rmul__", "__eq__", "__sub__", "__radd__"):
            self.assertEqual(arguments, ["self", "other"], place)
        forms = {"__contains__": ["self", "x"], "__getitem__": ["self", "at"], "__setitem__": ["self", "at", "worth"]}
        if node.name in forms:
            self.assertEqual(arguments, forms[node.name], place)
        for part in ast.walk(node.args):
            self.assertNotIsInstance(part, (ast.Call, ast.List, ast.Dict, ast.Set), place)

    def test_l5_items(self):
        """A class with items is not iterated over, and no name of the package goes with that badly."""
        items = False
        for name, tree in trees().items():
            for node in ast.walk(tree):
                if isinstance(node, ast.ClassDef):
                    methods = {part.name: part for part in node.body if isinstance(part, ast.FunctionDef)}
                    if "__getitem__" in methods:
                        items = True
                        self.assertIn("__iter__", methods, name)
                        self.assertRegex(ast.unparse(methods["__iter__"].body[0]), r"^raise TypeError\('", name)
        for name in files() if items else []:
            self.assertEqual([word for word in ("(type)", "Meta", "metaclass=") if word in source(name)], [], name)
        self.assertNotIn("keys", own_methods(trees()))

    def test_l23_generators(self):
        """The call of an own generator is iterated at once, and nothing else has its name."""
        generators, names = set(), []
        for tree in trees().values():
            for function in functions_of(tree):
                names.append(function.name)
                if any(isinstance(part, (ast.Yield, ast.YieldFrom)) for part in ast.walk(function)):
                    generators.add(function.name)
        self.assertEqual([name for name in generators if names.count(name) > 1], [])
        for name, tree in trees().items():
            loops = [part for part in ast.walk(tree) if isinstance(part, (ast.For, ast.comprehension))]
            heads = [ast.unparse(part.iter) for part in loops]
            for node in ast.walk(tree):
                if isinstance(node, ast.Call):
                    called = node.func.attr if isinstance(node.func, ast.Attribute) else getattr(node.func, "id", "")
                    if called in generators:
                        self.assertIn(ast.unparse(node), heads, f"{name}:{node.lineno}")

    def test_l6_statements(self):
        wrong = (ast.Global, ast.AsyncFunctionDef, ast.AsyncFor, ast.AsyncWith, ast.Await, ast.TryStar)
        self.check_nodes("L6", lambda node: isinstance(node, wrong))

    def test_l7_expressions(self):
        def is_wrong(node):
            floats = isinstance(node, ast.Constant) and isinstance(node.value, (float, complex, bytes))
            slash = isinstance(node, (ast.BinOp, ast.AugAssign)) and isinstance(node.op, (ast.Div, ast.MatMult))
            return floats or slash or isinstance(node, ast.GeneratorExp)
        self.check_nodes("L7", is_wrong)

    def test_l8_l15_names(self):
        barred = set(dir(builtins)) - {"__doc__", "__name__"}
        for name, tree in trees().items():
            bound, special = module_bindings(tree)
            self.assertEqual(len(bound), len(set(bound)), f"L15, {name}")
            self.assertEqual(set(bound) & barred, set(), f"L15, {name}")
            local = set()
            for function in functions_of(tree):
                assigned = names_assigned(function)
                local |= assigned
                self.assertEqual(assigned & (barred | special), set(), f"L15, {name}:{function.lineno}")
            used = {node.id for node in ast.walk(tree) if isinstance(node, ast.Name)}
            self.assertEqual(used - local - set(bound) - ALLOWED_BUILTINS, set(), f"L8, {name}")

    def test_l10_size(self):
        for name, tree in trees().items():
            lines = source(name).split("\n")
            self.assertLessEqual(len(lines) - 1, 399, name)
            self.assertEqual([at + 1 for at, line in enumerate(lines) if len(line) > 120 or "\t" in line], [], name)
            for node in functions_of(tree):
                self.assertLessEqual(node.end_lineno - node.lineno + 1, 40, f"{name}:{node.lineno}")

    def test_l12_l14_l27_characters(self):
        for name, tree in trees().items():
            text = source(name)
            self.assertTrue(all(sign == "\n" or " " <= sign <= "~" for sign in text), name)
            self.assertTrue(text.endswith("\n") and not text.endswith("\n\n"), name)
            self.assertEqual(re.findall(r"\\[^nt\\'\"]", text), [], name)
            self.assertEqual([line for line in text.split("\n") if line.rstrip() != line], [], name)
            for node in ast.walk(tree):
                if isinstance(node, ast.Constant) and isinstance(node.value, str):
                    self.assertNotIn("%", node.value, f"{name}:{node.lineno}")

    def test_l17_words_of_strings(self):
        for name, tree in trees().items():
            told = {id(node.body[0].value) for node in ast.walk(tree)
                    if isinstance(node, (ast.Module, ast.ClassDef, ast.FunctionDef)) and node.body
                    and isinstance(node.body[0], ast.Expr)}
            for node in ast.walk(tree):
                if isinstance(node, ast.Constant) and isinstance(node.value, str) and id(node) not in told:
                    words = set(re.findall(r"[A-Za-z_]+", node.value))
                    self.assertEqual(words & BARRED_WORDS, set(), f"{name}:{node.lineno}")

    def test_l17_words(self):
        for name, tree in trees().items():
            for node in ast.walk(tree):
                for attribute in ("id", "attr", "arg"):
                    word = getattr(node, attribute, None)
                    self.assertNotIn(word, BARRED_WORDS, name)
                    self.assertNotIn(word, BARRED_ATTRIBUTES if attribute == "attr" else BARRED_NAMES, name)
                if isinstance(node, (ast.FunctionDef, ast.ClassDef)):
                    self.assertNotIn(node.name, BARRED_WORDS | BARRED_NAMES, name)

    def test_l18_no_name_is_a_method_and_an_attribute(self):
        stored = {node.attr for tree in trees().values() for node in ast.walk(tree)
                  if isinstance(node, ast.Attribute) and isinstance(node.ctx, ast.Store)}
        self.assertEqual(stored & own_methods(trees()), set())

    def test_l20_is(self):
        def is_wrong(node):
            if not isinstance(node, ast.Compare):
                return False
            signs = [isinstance(op, (ast.Is, ast.IsNot)) for op in node.ops]
            right = [isinstance(part, ast.Constant) and part.value in (None, True, False) for part in node.comparators]
            return any(sign and not good for sign, good in zip(signs, right))
        self.check_nodes("L20", is_wrong)

    def test_l23_kept_and_map(self):
        def is_wrong(node):
            kept = isinstance(node, (ast.Assign, ast.Return)) and isinstance(node.value, ast.Call)
            call = node.value.func if kept else None
            return isinstance(call, ast.Name) and call.id in ("zip", "enumerate", "reversed", "map", "range")
        self.check_nodes("L23", is_wrong)

    def test_l23_loops_leave_what_they_go_over(self):
        for name, tree in trees().items():
            for node in ast.walk(tree):
                if isinstance(node, ast.For):
                    names = [part for part in ast.walk(node.iter) if isinstance(part, (ast.Name, ast.Attribute))]
                    head = {ast.unparse(part) for part in names}
                    for part in ast.walk(node):
                        if isinstance(part, ast.Call) and isinstance(part.func, ast.Attribute):
                            if part.func.attr in CHANGING:
                                self.assertNotIn(ast.unparse(part.func.value), head, f"{name}:{part.lineno}")

    def test_l24_sets(self):
        for name, tree in trees().items():
            for node in ast.walk(tree):
                for child in ast.iter_child_nodes(node):
                    call = isinstance(child, ast.Call) and isinstance(child.func, ast.Name) and child.func.id == "set"
                    if call or isinstance(child, (ast.SetComp, ast.Set)):
                        self.assertTrue(self.takes_sets(node), f"{name}:{child.lineno}")

    def takes_sets(self, node):
        if isinstance(node, ast.Call):
            return isinstance(node.func, ast.Name) and node.func.id in ("sorted", "len") and not node.keywords
        return isinstance(node, (ast.Compare, ast.BinOp)) or (isinstance(node, ast.Assign) and len(node.targets) == 1)

    def test_l25_methods(self):
        known = own_methods(trees()) | BUILTIN_METHODS

        def is_wrong(node):
            return isinstance(node, ast.Call) and isinstance(node.func, ast.Attribute) and node.func.attr not in known
        self.check_nodes("L25", is_wrong)

    def test_l26_method_names(self):
        plain = set()
        for kind in (str, int, list, dict, set, bytes):
            plain.update(name for name in dir(kind) if not name.startswith("__"))
        self.assertEqual(own_methods(trees()) & plain, set())

    def test_l27_powers(self):
        def is_wrong(node):
            return (isinstance(node, ast.BinOp) and isinstance(node.op, ast.Pow)
                    and not (isinstance(node.right, ast.Constant) and 0 <= node.right.value <= 64))
        self.check_nodes("L27", is_wrong)

    def test_l28_returns(self):
        forms = {"__len__": r"^(len\(.*\)|\d+)$", "__repr__": r"^(f?['\"].*|(str|repr)\(.*\))$",
                 "__str__": r"^(f?['\"].*|(str|repr)\(.*\))$"}
        for name, tree in trees().items():
            for function in functions_of(tree):
                returned = [node.value for node in ast.walk(function) if isinstance(node, ast.Return)]
                for value in returned if function.name in forms else []:
                    self.assertRegex(ast.unparse(value), forms[function.name], f"{name}:{function.lineno}")
                if function.name == "__init__":
                    self.assertEqual(returned, [], f"{name}:{function.lineno}")


class StillTest(unittest.TestCase):
    """L5: what operators, properties and the like run changes nothing that it did not create itself."""

    def setUp(self):
        self.defined = {}
        for name, tree in trees().items():
            for node in ast.walk(tree):
                if isinstance(node, ast.FunctionDef):
                    self.defined.setdefault(node.name, []).append((name, node))
                if isinstance(node, ast.ClassDef):
                    for part in node.body:
                        if isinstance(part, ast.FunctionDef) and part.name == "__init__":
                            self.defined.setdefault(node.name, []).append((name, part))

    def reached(self):
        """The functions that operators, properties, ==, len, str and repr run, by the names that they call."""
        waiting = []
        for name, parts in self.defined.items():
            for file, node in parts:
                is_property = "property" in [ast.unparse(decorator) for decorator in node.decorator_list]
                is_operator = name.startswith("__") and name not in ("__init__", "__call__", "__setitem__")
                if is_property or is_operator:
                    waiting.append((file, node))
        found = []
        while waiting:
            file, node = waiting.pop()
            if node in [known for _, known in found]:
                continue
            found.append((file, node))
            for part in ast.walk(node):
                if isinstance(part, ast.Call):
                    called = part.func.attr if isinstance(part.func, ast.Attribute) else getattr(part.func, "id", "")
                    waiting.extend(self.defined.get(called, []) if called != "__init__" else [])
        return found

    def test_nothing_changes(self):
        for file, node in self.reached():
            made = self.made_here(node)
            for part in ast.walk(node):
                self.check_part(f"{file}:{getattr(part, 'lineno', node.lineno)}", node, part, made)

    def made_here(self, function):
        """The local names that are only assigned literals, list(..), dict(..), sorted(..) or list comprehensions."""
        good, bad = set(), set(arg.arg for arg in function.args.args)
        for part in ast.walk(function):
            if isinstance(part, ast.Assign):
                for target in part.targets:
                    if isinstance(target, ast.Name):
                        (good if self.is_own(part.value) else bad).add(target.id)
        return good - bad

    def is_own(self, value):
        if isinstance(value, ast.Call):
            return isinstance(value.func, ast.Name) and value.func.id in ("list", "dict", "sorted")
        return isinstance(value, (ast.List, ast.Dict, ast.ListComp))

    def check_part(self, place, function, part, made):
        if isinstance(part, ast.AugAssign):
            self.assertIsInstance(part.target, ast.Name, place)
            self.assertIsInstance(part.value, ast.Constant, place)
        if isinstance(part, ast.Attribute) and isinstance(part.ctx, (ast.Store, ast.Del)):
            self.assertEqual(function.name, "__init__", place)
        if isinstance(part, ast.Subscript) and isinstance(part.ctx, (ast.Store, ast.Del)):
            self.assertIn(ast.unparse(part.value), made, place)
        if isinstance(part, ast.Call) and isinstance(part.func, ast.Attribute) and part.func.attr in CHANGING:
            self.assertIn(ast.unparse(part.func.value), made, place)
            self.assertNotIn(part.func.attr, ("add", "discard", "sort"), place)
        self.assertNotIsInstance(part, (ast.Yield, ast.YieldFrom, ast.Nonlocal), place)
        if isinstance(part, ast.Call) and isinstance(part.func, ast.Name):
            self.assertNotIn(part.func.id, [arg.arg for arg in function.args.args], place)


if __name__ == "__main__":
    unittest.main()
