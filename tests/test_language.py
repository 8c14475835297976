"""The rules of ../shared/LANGUAGE.md that can be seen from one file by itself, or from the list of the files."""

import ast
import builtins
import pathlib
import unittest

import suregate

ROOT = pathlib.Path(suregate.__file__).parent
FILES = sorted(ROOT.rglob("*.py"))
LIBRARY = {
    "heapq": {"heappush", "heappop", "heapify", "heapreplace", "heappushpop"},
    "math": {"gcd", "lcm", "isqrt", "comb", "perm", "factorial"},
    "itertools": {
        "product", "combinations", "permutations", "chain", "accumulate", "pairwise", "islice", "zip_longest"},
    "collections": {"defaultdict"},
}
BUILTINS = set("""
    len range enumerate zip min max sum abs sorted reversed int str bool list tuple dict set frozenset isinstance ord
    repr any all divmod pow getattr hasattr setattr iter next map super property Exception ValueError TypeError KeyError
    IndexError LookupError ZeroDivisionError ArithmeticError OverflowError RuntimeError NotImplementedError
    AttributeError StopIteration NotImplemented
""".split())
METHODS = set("""
    append clear copy count endswith extend find get index insert isalnum isalpha isdigit islower isspace isupper items
    join keys ljust lower lstrip partition pop remove replace reverse rfind rjust rpartition rsplit rstrip setdefault
    split splitlines startswith strip update upper values zfill bit_length add discard title capitalize swapcase
    casefold center expandtabs removeprefix removesuffix rindex isascii isdecimal isnumeric istitle isidentifier
    isprintable translate sort format __init__
""".split())
DOUBLE_UNDERSCORE = set("__init__ __eq__ __repr__ __str__ __len__ __enter__ __exit__ __call__ __iter__".split())
UNUSED_NAMES = set("""
    register mro elements open input law version_info with_traceback add_note attrgetter breakpoint builtins compile
    copyright credits delattr dir eval exec exit gc globals help id importlib license locals methodcaller os quit sys
    type vars hash round print chr bytearray memoryview callable
""".split())
BARRED_WORDS = set("""
    type typing typing_extensions enum Enum IntEnum StrEnum Flag IntFlag Generic Protocol ABC ABCMeta namedtuple
    NamedTuple TypedDict TYPE_CHECKING abstractmethod
""".split())
FORBIDDEN_WORDS = ("dataclass", "overload", "contextmanager", "_wall")
STATEMENTS = (
    ast.Assign, ast.AugAssign, ast.If, ast.While, ast.For, ast.Return, ast.Break, ast.Continue, ast.Pass, ast.Raise,
    ast.Assert, ast.Delete, ast.Nonlocal, ast.Match, ast.With, ast.Try, ast.Expr, ast.FunctionDef, ast.ClassDef,
    ast.ImportFrom, ast.AnnAssign)
TAKES_LIST = ("any", "all", "min", "max", "sum", "sorted")
GIVES_NEW = ("list", "tuple", "sorted", "range", "len", "min", "max", "sum")
CHANGING = set("append add clear discard extend insert pop remove reverse setdefault sort update".split())
HEAP_CALLS = ("heappush", "heappop", "heapify", "heapreplace", "heappushpop")


def nodes_of(tree, *kinds):
    return [node for node in ast.walk(tree) if isinstance(node, kinds)]


def names_walked(head):
    """Returns the names through which a loop's head goes, except where it makes a new list or a number of them."""
    called = getattr(head.func, "id", "") if isinstance(head, ast.Call) else ""
    sliced = isinstance(head, ast.Subscript) and isinstance(head.slice, ast.Slice)
    if called in GIVES_NEW or sliced or isinstance(head, (ast.BinOp, ast.keyword, ast.ListComp)):
        return set()
    if isinstance(head, ast.Name):
        return {head.id}
    return {name for part in ast.iter_child_nodes(head) for name in names_walked(part)}


def name_changed(node):
    """Returns the name through which a node changes an attribute or an item, or an empty one."""
    if isinstance(node, ast.Call) and isinstance(node.func, ast.Attribute):
        place = node.func.value if node.func.attr in CHANGING else None
    elif isinstance(node, ast.Call) and getattr(node.func, "id", "") in HEAP_CALLS:
        place = node.args[0]
    elif isinstance(node, (ast.Attribute, ast.Subscript)) and not isinstance(node.ctx, ast.Load):
        place = node.value
    else:
        place = None
    while isinstance(place, (ast.Attribute, ast.Subscript, ast.Call)):
        place = place.func if isinstance(place, ast.Call) else place.value
    return place.id if isinstance(place, ast.Name) else ""


def changed_while_walked(tree):
    """Returns the lines that change something through a name through which the head of a loop around them goes."""
    lines = set()
    for loop in nodes_of(tree, ast.For, ast.ListComp, ast.SetComp, ast.DictComp, ast.GeneratorExp):
        heads = [loop.iter] if isinstance(loop, ast.For) else [part.iter for part in loop.generators]
        walked = {name for head in heads for name in names_walked(head)}
        rows = loop.body if isinstance(loop, ast.For) else [loop]
        lines |= {node.lineno for row in rows for node in ast.walk(row) if name_changed(node) in walked}
    return sorted(lines)


class LanguageTest(unittest.TestCase):
    """Each test looks at every file; the message of a failure tells the rule, the file and the line."""

    @classmethod
    def setUpClass(cls):
        cls.texts = {path: path.read_text(encoding="ascii") for path in FILES}
        cls.trees = {path: ast.parse(text) for path, text in cls.texts.items()}
        cls.methods = {
            function.name for tree in cls.trees.values() for owner in nodes_of(tree, ast.ClassDef)
            for function in owner.body if isinstance(function, ast.FunctionDef)}

    def each(self, *kinds):
        for path, tree in self.trees.items():
            for node in nodes_of(tree, *kinds):
                yield f"{path.relative_to(ROOT)}:{getattr(node, 'lineno', 0)}", node

    def demand(self, holds, rule, place):
        self.assertTrue(holds, f"{rule} at {place}")

    def test_files(self):
        self.assertLessEqual(len(FILES), 100)
        for path in ROOT.rglob("*"):
            if "__pycache__" not in path.parts:
                place = path.relative_to(ROOT)
                self.demand(path.is_dir() or path.suffix == ".py", "L1", place)
                self.demand(path.name == path.name.lower() and "-" not in path.name, "L14", place)
                if path.is_dir():
                    self.demand((path / "__init__.py").exists(), "L14", place)
                    self.demand(not path.with_suffix(".py").exists(), "L14", place)

    def test_sizes_and_characters(self):
        for path, text in self.texts.items():
            lines = text.split("\n")
            self.demand(len(lines) <= 400, "L10", path)
            self.demand(text.endswith("\n") and not text.endswith("\n\n"), "last line", path)
            for number, line in enumerate(lines, start=1):
                place = f"{path}:{number}"
                self.demand(len(line) <= 120 and line == line.rstrip(), "L10", place)
                self.demand(all(" " <= character <= "~" for character in line), "L14", place)
                self.demand(not any(word in line for word in FORBIDDEN_WORDS), "L12, L17", place)
        for place, node in self.each(ast.FunctionDef):
            self.demand(node.end_lineno - node.lineno < 40, "L10", place)

    def test_imports(self):
        for path, tree in self.trees.items():
            others = [node for node in tree.body if not isinstance(node, ast.ImportFrom)]
            docstring = isinstance(others[0], ast.Expr) if others else False
            allowed = tree.body[1:] if docstring else tree.body
            ended = False
            for node in allowed:
                ended = ended or not isinstance(node, ast.ImportFrom)
                self.demand(not (ended and isinstance(node, ast.ImportFrom)), "L2", path)
        for place, node in self.each(ast.Import, ast.ImportFrom):
            self.demand(isinstance(node, ast.ImportFrom) and node.level == 0, "L2, L16", place)
            for alias in node.names:
                self.demand(alias.asname is None and alias.name != "*", "L2", place)
                if node.module in LIBRARY:
                    self.demand(alias.name in LIBRARY[node.module], "L2", place)
                else:
                    self.demand(alias.name in self.names_of(node.module), "L16", place)

    def names_of(self, module):
        """Returns the names that a file of the package defines itself."""
        path = ROOT.parent.joinpath(*module.split(".")).with_suffix(".py")
        names = set()
        for node in self.trees[path].body:
            if isinstance(node, (ast.FunctionDef, ast.ClassDef)):
                names.add(node.name)
            elif isinstance(node, ast.Assign):
                names.add(node.targets[0].id)
        return names

    def test_imports_make_no_ring(self):
        imports = {}
        for path, tree in self.trees.items():
            module = ".".join(path.relative_to(ROOT.parent).with_suffix("").parts)
            imports[module] = {
                node.module for node in nodes_of(tree, ast.ImportFrom) if node.module.startswith("suregate")}
        while imports:
            done = [module for module, others in imports.items() if not others & set(imports)]
            self.assertTrue(done, f"L16: {sorted(imports)}")
            imports = {module: others for module, others in imports.items() if module not in done}

    def test_module_level(self):
        kinds = (ast.ImportFrom, ast.FunctionDef, ast.ClassDef, ast.Assign, ast.Expr)
        for path, tree in self.trees.items():
            bound = []
            for place, node in enumerate(tree.body):
                self.demand(isinstance(node, kinds), "L3", f"{path}:{node.lineno}")
                if isinstance(node, ast.Expr):
                    self.demand(place == 0 and isinstance(node.value, ast.Constant), "L3", f"{path}:{node.lineno}")
                elif isinstance(node, ast.Assign):
                    plain = (ast.Constant, ast.List, ast.Tuple, ast.Dict, ast.BinOp, ast.UnaryOp, ast.Name)
                    self.demand(len(node.targets) == 1 and isinstance(node.value, plain), "L3", f"{path}:{node.lineno}")
                    bound.append(node.targets[0].id)
                elif isinstance(node, ast.ImportFrom):
                    bound += [alias.name for alias in node.names]
                else:
                    bound.append(node.name)
            self.demand(len(bound) == len(set(bound)), "L15", path)
            local = {node.arg for node in nodes_of(tree, ast.arg)}
            local |= {node.id for node in nodes_of(tree, ast.Name) if not isinstance(node.ctx, ast.Load)}
            classes = {node.name for node in nodes_of(tree, ast.ClassDef)}
            imported = {alias.name for node in nodes_of(tree, ast.ImportFrom) for alias in node.names}
            self.demand(not local & (classes | imported), "L15", path)

    def test_statements_and_values(self):
        for place, node in self.each(ast.stmt):
            self.demand(isinstance(node, STATEMENTS), "L6", place)
        barred = (
            ast.Await, ast.AsyncFor, ast.AsyncFunctionDef, ast.Global, ast.Div, ast.MatMult)
        for place, node in self.each(*barred):
            self.demand(False, "L6, L7", place)
        for place, node in self.each(ast.Constant):
            self.demand(not isinstance(node.value, (float, complex)), "L7", place)
            if isinstance(node.value, str):
                self.demand("%" not in node.value and not node.value.endswith(("._", ".__")), "L27", place)
                self.demand(not (len(node.value) > 3 and node.value[:2] == node.value[-2:] == "__"), "L27", place)
        for place, node in self.each(ast.BinOp):
            if isinstance(node.op, ast.Pow):
                self.demand(isinstance(node.right, ast.Constant) and 0 <= node.right.value <= 64, "L27", place)
        for place, node in self.each(ast.Compare):
            for operator, right in zip(node.ops, node.comparators):
                if isinstance(operator, (ast.Is, ast.IsNot)):
                    self.demand(isinstance(right, ast.Constant), "L20", place)

    def test_words_in_strings(self):
        for path, tree in self.trees.items():
            owners = nodes_of(tree, ast.Module, ast.ClassDef, ast.FunctionDef)
            docstrings = [owner.body[0].value for owner in owners if isinstance(owner.body[0], ast.Expr)]
            for node in nodes_of(tree, ast.Constant):
                if isinstance(node.value, str) and node not in docstrings:
                    words = set("".join(c if c.isalnum() or c == "_" else " " for c in node.value).split())
                    self.demand(not words & (BARRED_WORDS - {"type"}), "L17", f"{path}:{node.lineno}")

    def test_calls(self):
        for place, node in self.each(ast.Call):
            if isinstance(node.func, ast.Attribute):
                self.demand(node.func.attr in METHODS | self.methods, "L25", place)
            elif isinstance(node.func, ast.Name) and node.func.id in TAKES_LIST:
                self.demand(not any(isinstance(part, ast.GeneratorExp) for part in node.args), "L7", place)
            else:
                self.demand(isinstance(node.func, (ast.Name, ast.Subscript)), "L7", place)

    def test_names(self):
        for path, tree in self.trees.items():
            own = {node.arg for node in nodes_of(tree, ast.arg)} | {
                node.id for node in nodes_of(tree, ast.Name) if not isinstance(node.ctx, ast.Load)} | {
                node.name for node in nodes_of(tree, ast.FunctionDef, ast.ClassDef)} | {
                alias.name for node in nodes_of(tree, ast.ImportFrom) for alias in node.names} | {
                node.name for node in nodes_of(tree, ast.ExceptHandler) if node.name}
            for name in sorted(own):
                taken = BUILTINS | UNUSED_NAMES | BARRED_WORDS | set(dir(builtins))
                self.demand(name not in taken or name.startswith("__"), "L8, L15, L17", f"{path}: {name}")
                allowed = name in DOUBLE_UNDERSCORE if name.startswith("__") else not name.endswith("__")
                self.demand(allowed, "L5, L8", f"{path}: {name}")
            used = {node.id for node in nodes_of(tree, ast.Name) if isinstance(node.ctx, ast.Load)}
            self.demand(used <= own | BUILTINS, "L8", f"{path}: {sorted(used - own - BUILTINS)}")
            self.demand("_" not in used, "L12", path)

    def test_functions_and_classes(self):
        for place, node in self.each(ast.FunctionDef, ast.ClassDef):
            decorators = [getattr(part, "id", getattr(part, "attr", "")) for part in node.decorator_list]
            self.demand(set(decorators) <= {"property", "setter", "staticmethod", "classmethod"}, "L4, L5", place)
        for place, node in self.each(ast.ClassDef):
            functions = {part.name for part in node.body if isinstance(part, ast.FunctionDef)}
            attributes = {
                part.attr for part in nodes_of(node, ast.Attribute)
                if isinstance(part.ctx, ast.Store) and isinstance(part.value, ast.Name) and part.value.id == "self"}
            self.demand(not functions & attributes, "L18", place)

    def test_names_of_methods_and_attributes(self):
        methods, properties, attributes, generators, functions = set(), [], set(), set(), []
        for _, node in self.each(ast.FunctionDef):
            functions.append(node.name)
            if nodes_of(node, ast.Yield, ast.YieldFrom):
                generators.add(node.name)
        for _, node in self.each(ast.ClassDef):
            for part in node.body:
                if isinstance(part, ast.FunctionDef):
                    decorated = "property" in [getattr(told, "id", "") for told in part.decorator_list]
                    (properties.append if decorated else methods.add)(part.name)
            attributes |= {part.attr for part in nodes_of(node, ast.Attribute) if isinstance(part.ctx, ast.Store)}
        self.demand(not methods & attributes, "L18", sorted(methods & attributes))
        self.demand(not set(properties) & (attributes | methods), "L5", properties)
        plain = {name for kind in (str, list, dict, int, set, bytes) for name in dir(kind) if not name.startswith("__")}
        taken = (methods | attributes | set(properties)) & plain - {"index", "count"}
        self.demand(not taken, "L26", sorted(taken))
        for name in generators:
            self.demand(functions.count(name) == 1, "L23", name)
        read = {node.attr for _, node in self.each(ast.Attribute) if isinstance(node.ctx, ast.Load)}
        self.demand(read <= attributes | methods | set(properties) | METHODS, "L18", sorted(read))

    def test_errors(self):
        for place, node in self.each(ast.Raise):
            made = isinstance(node.exc, ast.Call) and isinstance(node.exc.func, ast.Name)
            self.demand(node.exc is None or made, "L19", place)
        for place, node in self.each(ast.ExceptHandler):
            names = node.type.elts if isinstance(node.type, ast.Tuple) else [node.type]
            self.demand(all(isinstance(name, ast.Name) and name.id != "Exception" for name in names), "L19", place)
        for place, node in self.each(ast.FunctionDef):
            caught = [handler.name for handler in nodes_of(node, ast.ExceptHandler) if handler.name]
            self.demand(len(caught) == len(set(caught)), "L19", place)

    def test_sets_and_kept_iterators(self):
        for place, node in self.each(ast.Assign):
            called = node.value.func.id if isinstance(node.value, ast.Call) and isinstance(
                node.value.func, ast.Name) else ""
            self.demand(called not in ("frozenset", "map", "filter"), "L23, L24", place)
        for place, node in self.each(ast.For, ast.comprehension):
            self.demand(not isinstance(node.iter, (ast.Set, ast.SetComp)), "L24", place)
            self.demand(getattr(getattr(node.iter, "func", None), "id", "") != "set", "L24", place)

    def test_what_a_loop_walks_is_not_changed_in_it(self):
        # Wider than L23, which bars only changes of the very list: what a method of an object returns may be a part
        # of it, so nothing of an object is changed while a loop goes through it to what it walks.
        for path, tree in self.trees.items():
            lines = changed_while_walked(tree)
            self.demand(not lines, "L5, L23", f"{path.relative_to(ROOT)}: {lines}")

    def test_what_counts_as_changed_while_walked(self):
        barred = (
            "for x in self.near(k): self.rows[x][k] = True", "for x in self.near(k): self.rows[x].pop(k, None)",
            "for x in reversed(self.near(k)): self.rows[x] = k",
            "for x, y in enumerate(self.net.ands): self.rows[x] = y",
            "for x in self.rows: self.rows.append(x)", "for x in xs: del xs[x]", "for x in d.items(): d[x] = 1",
            "for x in a if k else b: b.clear()", "for x in told(d): d[x] = 1", "for x in self.q: heappush(self.q, x)",
            "xs = [self.rows.pop() for x in self.rows]", "for x in self.near(k):\n for y in list(xs): self.rows[y] = x")
        for text in barred:
            self.assertTrue(changed_while_walked(ast.parse(text)), text)
        allowed = (
            "for x in list(self.near(k)): self.rows[x][k] = True", "for x in self.rows[k:]: self.rows.append(x)",
            "for x, y in enumerate(list(self.net.ands), start=self.first): self.rows[x] = y",
            "for x in reversed(list(self.near(k))): self.rows[x] = k", "for x in self.near(k): rows[x] = self.of(x)")
        for text in allowed:
            self.assertFalse(changed_while_walked(ast.parse(text)), text)


if __name__ == "__main__":
    unittest.main()
