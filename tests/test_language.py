"""The rules of LANGUAGE.md that can be seen on the text of the files."""

import ast
import builtins
import pathlib
import re
import tokenize
import unittest

ROOT = pathlib.Path(__file__).resolve().parent.parent
PACKAGE = ROOT / "tailheard"
FILES = sorted(PACKAGE.rglob("*.py"))

BUILTINS = set(dir(builtins)) - {"__name__", "__doc__"}
ALLOWED_BUILTINS = set("""len range enumerate zip min max sum abs sorted reversed int str bool list tuple dict set
    isinstance ord repr any all divmod iter next getattr hasattr setattr Exception ValueError TypeError KeyError
    IndexError LookupError ZeroDivisionError ArithmeticError OverflowError RuntimeError NotImplementedError
    AttributeError StopIteration NotImplemented""".split())
LIBRARY = {
    "heapq": {"heappush", "heappop", "heapify", "heapreplace", "heappushpop"},
    "math": {"gcd", "lcm", "isqrt", "comb", "perm", "factorial"},
    "itertools": {"product", "combinations", "permutations", "chain", "accumulate", "pairwise", "islice",
                  "zip_longest"},
    "collections": {"defaultdict"},
}
DUNDERS = set("""__init__ __eq__ __repr__ __str__ __len__ __enter__ __exit__ __call__ __iter__ __lt__ __le__ __gt__
    __ge__ __ne__ __add__ __sub__ __mul__ __floordiv__ __mod__ __pow__ __and__ __or__ __xor__ __lshift__ __rshift__
    __neg__ __pos__ __invert__ __abs__ __bool__ __contains__ __getitem__ __setitem__""".split())
METHODS = set("""append clear copy count endswith extend find get index insert isalnum isalpha isdigit islower isspace
    isupper items join keys ljust lower lstrip partition pop remove replace reverse rfind rjust rpartition rsplit
    rstrip setdefault split splitlines startswith strip update upper values zfill bit_length title capitalize
    swapcase casefold center expandtabs removeprefix removesuffix rindex isascii isdecimal isnumeric istitle
    isidentifier isprintable""".split())
BARRED_NAMES = set("""register mro elements open input law version_info with_traceback add_note attrgetter breakpoint
    builtins compile copyright credits delattr dir eval exec exit gc globals help id importlib license locals
    methodcaller os quit super type vars sys""".split())
BARRED_WORDS = set("""type typing typing_extensions enum Enum IntEnum StrEnum Flag IntFlag Generic Protocol ABC ABCMeta
    namedtuple NamedTuple TypedDict TYPE_CHECKING abstractmethod dataclass overload contextmanager _wall
    _WallAttr""".split())
BARRED_ATTRIBUTES = set("""items keys values pop update append clear extend insert remove reverse setdefault sort args
    encode decode hex fromhex format format_map mro as_integer_ratio bit_count conjugate from_bytes is_integer
    to_bytes""".split())
CHANGES = {"append", "clear", "extend", "insert", "pop", "remove", "reverse", "setdefault", "update"}
VIEWS = {"items", "keys", "values"}
LISTS_ONLY = {"any", "all", "min", "max", "sum", "sorted"}
NODES = (ast.Global, ast.AsyncFunctionDef, ast.Await, ast.AsyncFor, ast.AsyncWith, ast.AnnAssign, ast.Div)


def parents_of(tree):
    """For each node the node in which it stands."""
    found = {}
    for node in ast.walk(tree):
        for child in ast.iter_child_nodes(node):
            found[child] = node
    return found


def is_call_of(node, names):
    return isinstance(node, ast.Call) and isinstance(node.func, ast.Name) and node.func.id in names


def names_gone_over(node):
    """The names of what a loop goes over itself, not of a copy."""
    if isinstance(node, ast.Name):
        return {node.id}
    if isinstance(node, (ast.IfExp, ast.BoolOp)):
        parts = [node.body, node.orelse] if isinstance(node, ast.IfExp) else node.values
        return {name for part in parts for name in names_gone_over(part)}
    if is_call_of(node, {"enumerate", "zip", "reversed"}):
        return {name for part in node.args for name in names_gone_over(part)}
    if isinstance(node, ast.Call) and isinstance(node.func, ast.Attribute) and node.func.attr in VIEWS:
        return names_gone_over(node.func.value)
    return set()


def names_changed(rows):
    """The names of what some statements change in place."""
    found = set()
    for each in [inner for row in rows for inner in ast.walk(row)]:
        thing = None
        if isinstance(each, ast.Call) and isinstance(each.func, ast.Attribute) and each.func.attr in CHANGES:
            thing = each.func.value
        elif isinstance(each, ast.Subscript) and isinstance(each.ctx, (ast.Store, ast.Del)):
            thing = each.value
        elif isinstance(each, ast.AugAssign):
            thing = each.target
        if isinstance(thing, ast.Name):
            found.add(thing.id)
    return found


def names_of_one_thing(function):
    """For each name of a function all names that are given to the same thing anywhere in it."""
    found = {}
    for node in ast.walk(function):
        if not isinstance(node, ast.Assign):
            continue
        pairs = []
        for target in node.targets:
            if isinstance(target, ast.Tuple) and isinstance(node.value, ast.Tuple):
                pairs += list(zip(target.elts, node.value.elts))
            else:
                pairs.append((target, node.value))
        for target, worth in pairs:
            if isinstance(target, ast.Name):
                joined = {target.id} | {name for name in names_gone_over(worth)}
                joined |= {other for name in joined for other in found.get(name, set())}
                for name in joined:
                    found[name] = joined
    return found


class LanguageTest(unittest.TestCase):
    @classmethod
    def setUpClass(cls):
        cls.texts = {path: path.read_bytes() for path in FILES}
        cls.trees = {path: ast.parse(text) for path, text in cls.texts.items()}
        cls.functions = [(path, node) for path, tree in cls.trees.items() for node in ast.walk(tree)
                         if isinstance(node, ast.FunctionDef)]
        cls.own_methods = {node.name for path, tree in cls.trees.items() for each in ast.walk(tree)
                           if isinstance(each, ast.ClassDef) for node in each.body
                           if isinstance(node, ast.FunctionDef)}

    def nodes(self, *kinds):
        for path, tree in self.trees.items():
            for node in ast.walk(tree):
                if isinstance(node, kinds):
                    yield f"{path.name}:{getattr(node, 'lineno', 0)}", node

    def test_folder(self):
        others = [path for path in PACKAGE.rglob("*") if "__pycache__" not in path.parts
                  and not path.is_dir() and path not in FILES]
        self.assertEqual(others, [])
        self.assertLessEqual(len(FILES), 100)
        for path in FILES:
            self.assertRegex(path.stem, r"^(__init__|[a-z][a-z0-9_]*)$")
            self.assertNotIn(path.stem, BUILTINS)

    def test_sizes_and_characters(self):
        for path, text in self.texts.items():
            for at, line in enumerate(text.decode("ascii").split("\n"), 1):
                self.assertLessEqual(len(line), 120, f"{path.name}:{at}")
            self.assertLessEqual(text.count(b"\n"), 399, path.name)
            self.assertTrue(all(32 <= byte <= 126 or byte == 10 for byte in text), path.name)
        for path, node in self.functions:
            self.assertLessEqual(node.end_lineno - node.lineno + 1, 40, f"{path.name} {node.name}")

    def test_imports(self):
        order = {}
        for path, tree in self.trees.items():
            names = []
            order[path.stem] = []
            at_top = True
            for node in tree.body:
                if isinstance(node, ast.ImportFrom):
                    self.assertTrue(at_top, path.name)
                    self.assertEqual(node.level, 0)
                    self.assertTrue(all(each.asname is None for each in node.names))
                    if node.module in LIBRARY:
                        self.assertLessEqual({each.name for each in node.names}, LIBRARY[node.module])
                    else:
                        package, stem = node.module.split(".")
                        self.assertEqual(package, "tailheard")
                        defined = self.top_names(PACKAGE / f"{stem}.py")
                        for each in node.names:
                            self.assertIn(each.name, defined, path.name)
                        order[path.stem].append(stem)
                    names += [each.name for each in node.names]
                elif not (isinstance(node, ast.Expr) and node is tree.body[0]):
                    at_top = False
            bound = names + self.top_names(path)
            self.assertEqual(len(bound), len(set(bound)), path.name)
            used = {node.id for node in ast.walk(tree) if isinstance(node, ast.Name)}
            self.assertEqual([name for name in names if name not in used], [], path.name)
        for _, node in self.nodes(ast.Import):
            self.fail("a module is imported as a name")
        done = []
        while len(done) < len(order):
            ready = [stem for stem in order if stem not in done and all(each in done for each in order[stem])]
            self.assertTrue(ready, f"imports in a circle: {sorted(set(order) - set(done))}")
            done += ready

    def top_names(self, path):
        found = []
        for node in self.trees[path].body:
            if isinstance(node, (ast.FunctionDef, ast.ClassDef)):
                found.append(node.name)
            elif isinstance(node, ast.Assign):
                found += [target.id for target in node.targets]
        return found

    def test_module_level(self):
        for path, tree in self.trees.items():
            for node in tree.body:
                if isinstance(node, ast.Assign):
                    self.assertEqual(len(node.targets), 1)
                    self.assertIsInstance(node.targets[0], ast.Name)
                    self.assertFalse(any(isinstance(each, (ast.Call, ast.ListComp, ast.DictComp, ast.Set, ast.Name))
                                         for each in ast.walk(node.value)), path.name)
                elif isinstance(node, ast.Expr):
                    self.assertIsInstance(node.value, ast.Constant)
                else:
                    self.assertIsInstance(node, (ast.ImportFrom, ast.FunctionDef, ast.ClassDef), path.name)

    def test_statements_and_expressions(self):
        for where, node in self.nodes(*NODES):
            self.fail(f"{where}: {node}")
        for where, node in self.nodes(ast.Constant):
            self.assertNotIsInstance(node.value, float, where)
            if isinstance(node.value, str):
                self.assertNotIn(chr(37), node.value, where)
                self.assertFalse(node.value.endswith(("._", ".__")), where)
        for where, node in self.nodes(ast.arg):
            self.assertIsNone(node.annotation, where)
        for where, node in self.nodes(ast.Compare):
            for sign, side in zip(node.ops, node.comparators):
                if isinstance(sign, (ast.Is, ast.IsNot)):
                    self.assertIsInstance(side, ast.Constant, where)
        for where, node in self.nodes(ast.FunctionDef):
            for each in node.decorator_list:
                self.assertIn(ast.unparse(each).split(".")[-1], ("property", "setter", "staticmethod", "classmethod"))
        for where, node in self.nodes(ast.ClassDef):
            self.assertEqual(node.decorator_list, [], where)
        for where, node in self.nodes(ast.Call):
            for each in node.args:
                if isinstance(each, ast.Starred):
                    self.assertRegex(ast.unparse(each), r"^\*[a-z_]+(\.[a-z_]+)?$", where)
        for where, node in self.nodes(ast.Raise):
            self.assertTrue(node.exc is None or isinstance(node.exc, ast.Call), where)
        for where, node in self.nodes(ast.ExceptHandler):
            self.assertIsNotNone(node.type, where)

    def test_generators_and_sets(self):
        for path, tree in self.trees.items():
            above = parents_of(tree)
            for node in ast.walk(tree):
                where = f"{path.name}:{getattr(node, 'lineno', 0)}"
                if isinstance(node, ast.GeneratorExp):
                    self.assertFalse(is_call_of(above[node], LISTS_ONLY), where)
                if isinstance(node, (ast.Set, ast.SetComp)) or is_call_of(node, {"set"}):
                    self.assertTrue(is_call_of(above[node], {"sorted", "len"})
                                    or isinstance(above[node], (ast.Compare, ast.Assign)), where)
                if is_call_of(node, {"reversed"}):
                    self.assertTrue(is_call_of(node.args[0], {"list", "tuple", "sorted", "range"}), where)
                if is_call_of(node, {"range", "zip", "enumerate", "reversed"}):
                    self.assertNotIsInstance(above[node], ast.Return, where)

    def test_names(self):
        for path, tree in self.trees.items():
            taken = self.top_names(path) + [each.name for node in tree.body if isinstance(node, ast.ImportFrom)
                                            for each in node.names]
            tops = {node.name for node in tree.body if isinstance(node, ast.ClassDef)}
            tops |= set(taken) - set(self.top_names(path))
            above = parents_of(tree)
            for node in ast.walk(tree):
                where = f"{path.name}:{getattr(node, 'lineno', 0)}"
                bound = None
                if isinstance(node, ast.Name) and isinstance(node.ctx, ast.Store):
                    bound = node.id
                elif isinstance(node, ast.arg):
                    bound = node.arg
                elif isinstance(node, ast.ExceptHandler):
                    bound = node.name
                if bound is not None:
                    self.assertNotIn(bound, tops, where)
                elif isinstance(node, (ast.FunctionDef, ast.ClassDef)):
                    bound = node.name
                    if isinstance(above[node], ast.FunctionDef):
                        self.assertNotIn(bound, tops, where)
                if bound is not None:
                    self.assertNotIn(bound, BUILTINS, where)
                    self.assertNotIn(bound, BARRED_NAMES, where)
                    if bound.startswith("__"):
                        self.assertIn(bound, DUNDERS, where)
                    self.assertRegex(bound, r"^(_|_?[A-Za-z][A-Za-z0-9_]*|__[a-z]+__)$", where)

    def test_builtins_that_are_used(self):
        for where, node in self.nodes(ast.Name):
            if node.id in BUILTINS and isinstance(node.ctx, ast.Load):
                self.assertIn(node.id, ALLOWED_BUILTINS | {"property", "staticmethod", "classmethod"}, where)

    def test_methods_and_attributes(self):
        stored = set()
        properties = set()
        for _, node in self.nodes(ast.Attribute):
            if isinstance(node.ctx, ast.Store):
                stored.add(node.attr)
        setters = set()
        for _, node in self.nodes(ast.FunctionDef):
            if node.decorator_list and ast.unparse(node.decorator_list[0]) == "property":
                properties.add(node.name)
            elif node.decorator_list and ast.unparse(node.decorator_list[0]).endswith(".setter"):
                setters.add(node.name)
        self.assertEqual(stored & BARRED_ATTRIBUTES, set())
        self.assertEqual(stored & properties, setters)
        self.assertEqual((stored - setters) & self.own_methods, set())
        values = {target.id for _, node in self.nodes(ast.ClassDef) for each in node.body
                  if isinstance(each, ast.Assign) for target in each.targets}
        for where, node in self.nodes(ast.Attribute):
            known = stored | properties | self.own_methods | METHODS | values | {"setter"}
            self.assertIn(node.attr, known, where)
        for where, node in self.nodes(ast.ClassDef):
            # A property and its setter are one method.
            own = [each.name for each in node.body if isinstance(each, ast.FunctionDef)
                   and not (each.decorator_list and ast.unparse(each.decorator_list[0]).endswith(".setter"))]
            self.assertEqual(len(own), len(set(own)), where)
            if "__getitem__" in own:
                self.assertIn("__iter__", own, where)
            kept = {each.attr for each in ast.walk(node) if isinstance(each, ast.Attribute)
                    and isinstance(each.ctx, ast.Store)}
            self.assertEqual((kept - setters) & set(own), set(), where)

    def test_len_and_iter(self):
        for where, node in self.nodes(ast.FunctionDef):
            rows = [each for each in node.body if not isinstance(each, ast.Expr)]
            if node.name == "__len__":
                self.assertRegex(ast.unparse(rows[-1]), r"^return (len\(.*\)|\d+)$", where)
            if node.name == "__iter__":
                self.assertRegex(ast.unparse(node), r"\n    return iter\(self(\.\w+)+\)$", where)

    def test_loops_leave_what_they_go_over(self):
        for where, node in self.nodes(ast.For):
            over = {ast.unparse(each) for each in ast.walk(node.iter) if isinstance(each, (ast.Name, ast.Attribute))}
            if is_call_of(node.iter, {"list", "sorted", "tuple", "range"}):
                over = set()
            for each in [inner for row in node.body for inner in ast.walk(row)]:
                if isinstance(each, ast.Call) and isinstance(each.func, ast.Attribute) and each.func.attr in CHANGES:
                    self.assertNotIn(ast.unparse(each.func.value), over, where)
                if isinstance(each, ast.Subscript) and isinstance(each.ctx, (ast.Store, ast.Del)):
                    self.assertNotIn(ast.unparse(each.value), over, where)

    def test_loops_go_over_no_choice(self):
        for where, node in self.nodes(ast.For, ast.comprehension):
            self.assertNotIsInstance(node.iter, (ast.IfExp, ast.BoolOp), where)
            if is_call_of(node.iter, {"enumerate", "zip", "reversed"}):
                for each in node.iter.args:
                    self.assertNotIsInstance(each, (ast.IfExp, ast.BoolOp), where)

    def test_loops_leave_what_has_a_second_name(self):
        for path, function in self.functions:
            names = names_of_one_thing(function)
            for node in ast.walk(function):
                if isinstance(node, ast.For):
                    loops, rows = [node.iter], node.body
                elif isinstance(node, (ast.ListComp, ast.DictComp, ast.SetComp)):
                    loops, rows = [each.iter for each in node.generators], [node]
                else:
                    continue
                over = set()
                for each in loops:
                    over |= {other for name in names_gone_over(each) for other in names.get(name, {name})}
                self.assertEqual(over & names_changed(rows), set(), f"{path.name}:{node.lineno}")

    def test_words_and_escapes(self):
        for path in FILES:
            with open(path, "rb") as file:
                for token in tokenize.tokenize(file.readline):
                    if token.type == tokenize.STRING and "\\" in token.string:
                        self.assertEqual(re.findall(r"\\[^nt\\\"']", token.string), [], path.name)
                    if token.type in (tokenize.NAME, tokenize.STRING) and not token.string.startswith('"""'):
                        words = set(re.findall(r"\w+", token.string))
                        self.assertEqual(words & BARRED_WORDS, set(), f"{path.name}:{token.start[0]}")


if __name__ == "__main__":
    unittest.main()
