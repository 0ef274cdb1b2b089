"""The form of the code: the rules of LANGUAGE.md that can be seen in the syntax tree."""

import ast
import builtins
import pathlib
import re
import unittest

FOLDER = pathlib.Path(__file__).resolve().parent.parent / "stillknown"
LISTED = ("errors loops patterns books forms least rules spaces handing finite exchange kept known reading versions "
          "links trees checks whatif live journals texts desk").split()
LIBRARY = {"heapq": {"heappush", "heappop", "heapify", "heapreplace", "heappushpop"},
           "math": {"gcd", "lcm", "isqrt", "comb", "perm", "factorial"},
           "itertools": {"product", "combinations", "permutations"}}
BUILTINS = set("len range enumerate zip min max sum abs sorted reversed int str bool bytes list tuple dict set frozenset "
               "isinstance ord repr any all divmod iter next map Exception ValueError TypeError KeyError IndexError "
               "LookupError ZeroDivisionError ArithmeticError OverflowError RuntimeError NotImplementedError "
               "AttributeError StopIteration NotImplemented property staticmethod classmethod super".split())
METHODS = set("append clear copy count endswith extend find get index insert isalnum isalpha isdigit islower isspace "
              "isupper items join keys ljust lower lstrip partition pop remove replace reverse rfind rjust rpartition "
              "rsplit rstrip setdefault split splitlines startswith strip update upper values zfill bit_length "
              "add discard".split())
STATEMENTS = (ast.FunctionDef, ast.ClassDef, ast.Assign, ast.AugAssign, ast.If, ast.While, ast.For, ast.Return, ast.Break,
              ast.Continue, ast.Pass, ast.Raise, ast.Assert, ast.Delete, ast.Expr, ast.ImportFrom, ast.Nonlocal,
              ast.With, ast.Try)
UNUSED = set("attrgetter breakpoint builtins compile copyright credits delattr dir eval exec exit gc getattr globals "
             "hasattr help id importlib license locals methodcaller os quit setattr sys type vars register mro elements "
             "open input law version_info with_traceback add_note format".split())
WORDS = re.compile(r"\b(type|typing|typing_extensions|enum|Enum|IntEnum|StrEnum|Flag|IntFlag|Generic|Protocol|ABC|ABCMeta|"
                   r"namedtuple|NamedTuple|TypedDict|TYPE_CHECKING|abstractmethod)\b|dataclass|overload|contextmanager")


def docstrings(tree):
    """The nodes of all docstrings."""
    found = []
    for node in ast.walk(tree):
        if isinstance(node, (ast.Module, ast.ClassDef, ast.FunctionDef)) and node.body:
            first = node.body[0]
            if isinstance(first, ast.Expr) and isinstance(first.value, ast.Constant):
                found.append(first.value)
    return found


def bound_names(node):
    """All names that a tree gives a meaning to, but for methods and attributes."""
    for part in ast.walk(node):
        if isinstance(part, ast.Name) and isinstance(part.ctx, ast.Store):
            yield part.id
        elif isinstance(part, ast.arg):
            yield part.arg
        elif isinstance(part, ast.ExceptHandler) and part.name is not None:
            yield part.name


class Language(unittest.TestCase):
    def setUp(self):
        self.files = sorted(FOLDER.glob("*.py"))
        self.texts = {path: path.read_text(encoding="utf-8") for path in self.files}
        self.trees = {path: ast.parse(text) for path, text in self.texts.items()}

    def each(self):
        for path, tree in self.trees.items():
            for node in ast.walk(tree):
                yield path, node

    def where(self, path, node):
        return f"{path.name}:{getattr(node, 'lineno', '?')}"

    def test_files(self):
        self.assertLessEqual(len(self.files), 100)
        for path in FOLDER.iterdir():
            if path.name != "__pycache__":
                self.assertRegex(path.name, r"^[a-z_0-9]+\.py$")
        for path, text in self.texts.items():
            self.assertRegex(text, r"\A[\n -~]*\Z", path.name)
            self.assertTrue(text.endswith("\n"))
            lines = text.split("\n")
            self.assertLessEqual(len(lines), 400, path.name)
            for number, line in enumerate(lines, start=1):
                self.assertLessEqual(len(line), 120, f"{path.name}:{number}")
                self.assertNotIn("_wall", line)
                self.assertNotIn("_WallAttr", line)

    def test_imports(self):
        names = {path.stem for path in self.files}
        for path, node in self.each():
            self.assertNotIsInstance(node, ast.Import)
            if not isinstance(node, ast.ImportFrom):
                continue
            where = self.where(path, node)
            self.assertEqual(node.level, 0, where)
            self.assertTrue(all(name.asname is None and name.name != "*" for name in node.names), where)
            if node.module in LIBRARY:
                self.assertTrue(all(name.name in LIBRARY[node.module] for name in node.names), where)
                continue
            package, module = node.module.split(".")
            self.assertEqual(package, "stillknown", where)
            self.assertIn(module, names, where)
            if path.stem in LISTED and module in LISTED:
                self.assertLess(LISTED.index(module), LISTED.index(path.stem), where)
            there = [part.name for part in self.trees[FOLDER / f"{module}.py"].body
                     if isinstance(part, (ast.FunctionDef, ast.ClassDef))]
            there += [target.id for part in self.trees[FOLDER / f"{module}.py"].body
                      if isinstance(part, ast.Assign) for target in part.targets]
            self.assertTrue(all(name.name in there for name in node.names), where)

    def test_no_ring_of_imports(self):
        wants = {path.stem: [node.module.split(".")[1] for node in ast.walk(tree)
                             if isinstance(node, ast.ImportFrom) and node.module.startswith("stillknown.")]
                 for path, tree in self.trees.items()}
        done = set()
        while len(done) < len(wants):
            more = {name for name, needs in wants.items() if name not in done and set(needs) <= done}
            self.assertTrue(more, wants)
            done |= more

    def test_imported_names_are_used(self):
        for path, tree in self.trees.items():
            used = {node.id for node in ast.walk(tree) if isinstance(node, ast.Name)}
            for node in ast.walk(tree):
                if isinstance(node, ast.ImportFrom):
                    for name in node.names:
                        self.assertIn(name.name, used, path.name)

    def test_module_level(self):
        for path, tree in self.trees.items():
            for at, node in enumerate(tree.body):
                where = self.where(path, node)
                if at == 0:
                    self.assertIsInstance(node, ast.Expr, where)
                    continue
                self.assertIsInstance(node, (ast.ImportFrom, ast.FunctionDef, ast.ClassDef, ast.Assign), where)
                if isinstance(node, ast.Assign):
                    self.assertEqual(len(node.targets), 1, where)
                    for part in ast.walk(node.value):
                        self.assertNotIsInstance(part, (ast.Call, ast.Lambda, ast.ListComp), where)

    def test_statements_and_values(self):
        barred = (ast.AsyncFunctionDef, ast.Global, ast.Set, ast.SetComp, ast.Yield, ast.YieldFrom, ast.Await, ast.Div,
                  ast.GeneratorExp, ast.MatMult)
        for path, node in self.each():
            where = self.where(path, node)
            self.assertNotIsInstance(node, barred, where)
            if isinstance(node, ast.stmt):
                self.assertIsInstance(node, STATEMENTS, where)
            if isinstance(node, ast.Constant):
                self.assertNotIsInstance(node.value, (float, complex), where)
            if isinstance(node, ast.BinOp) and isinstance(node.op, ast.Pow):
                self.assertIsInstance(node.right, ast.Constant, where)
            if isinstance(node, ast.Compare) and any(isinstance(op, (ast.Is, ast.IsNot)) for op in node.ops):
                self.assertTrue(all(isinstance(side, ast.Constant) for side in node.comparators), where)
            if isinstance(node, (ast.FunctionDef, ast.ClassDef)):
                self.assertTrue(all(isinstance(one, ast.Name) and one.id == "property" for one in node.decorator_list), where)
            if isinstance(node, ast.FunctionDef):
                self.assertLessEqual(node.end_lineno - node.lineno + 1, 40, where)

    def test_names(self):
        everything = set(dir(builtins))
        for path, tree in self.trees.items():
            classes = {node.name for node in tree.body if isinstance(node, ast.ClassDef)}
            imports = {name.name for node in tree.body if isinstance(node, ast.ImportFrom) for name in node.names}
            functions = [node.name for node in tree.body if isinstance(node, (ast.FunctionDef, ast.ClassDef))]
            constants = [node.targets[0].id for node in tree.body if isinstance(node, ast.Assign)]
            top = functions + constants + sorted(imports)
            self.assertEqual(len(top), len(set(top)), path.name)
            for name in functions:
                self.assertNotIn(name, everything | UNUSED, path.name)
            for name in bound_names(tree):
                self.assertNotIn(name, everything | UNUSED | classes | imports, path.name)
                self.assertRegex(name, r"^(_|_?[A-Za-z][A-Za-z0-9_]*)$", path.name)
            known = set(functions) | set(constants) | imports | set(bound_names(tree)) | BUILTINS
            known |= {node.name for node in ast.walk(tree) if isinstance(node, ast.FunctionDef)}
            for node in ast.walk(tree):
                if isinstance(node, ast.Name) and isinstance(node.ctx, ast.Load):
                    self.assertIn(node.id, known, self.where(path, node))
                    self.assertNotEqual(node.id, "_", self.where(path, node))

    def test_strings(self):
        for path, tree in self.trees.items():
            told = docstrings(tree)
            for node in ast.walk(tree):
                if isinstance(node, ast.Constant) and isinstance(node.value, str):
                    self.assertNotIn("%", node.value, self.where(path, node))
                    self.assertNotIn("__", node.value, self.where(path, node))
                    if node not in told:
                        self.assertIsNone(WORDS.search(node.value), self.where(path, node))

    def test_methods(self):
        own = {part.name for _, node in self.each() if isinstance(node, ast.ClassDef)
               for part in node.body if isinstance(part, ast.FunctionDef)}
        for path, node in self.each():
            if isinstance(node, ast.Call) and isinstance(node.func, ast.Attribute):
                self.assertIn(node.func.attr, METHODS | own, self.where(path, node))
            if isinstance(node, ast.ClassDef):
                stored = {part.attr for part in ast.walk(node)
                          if isinstance(part, ast.Attribute) and isinstance(part.ctx, ast.Store)}
                made = [part.name for part in node.body if isinstance(part, ast.FunctionDef)]
                self.assertEqual(len(made), len(set(made)), node.name)
                self.assertFalse(stored & set(made), node.name)
                self.assertFalse(set(made) & set(dir(str) + dir(dict) + dir(list) + dir(int)) - METHODS - {
                    "__init__", "__eq__", "__repr__", "__str__", "__len__"}, node.name)

    def test_stars_stand_before_names(self):
        for path, node in self.each():
            if isinstance(node, ast.Starred):
                plain = node.value.value if isinstance(node.value, ast.Attribute) else node.value
                self.assertIsInstance(plain, ast.Name, self.where(path, node))

    def test_what_is_iterated_at_once(self):
        takers = set("list tuple dict sorted sum any all enumerate zip min max".split())
        for path, tree in self.trees.items():
            for outer in ast.walk(tree):
                for node in ast.iter_child_nodes(outer):
                    if not isinstance(node, ast.Call) or not isinstance(node.func, ast.Name):
                        continue
                    if node.func.id in ("zip", "enumerate", "reversed", "product", "combinations", "permutations"):
                        taken = isinstance(outer, ast.Call) and isinstance(outer.func, ast.Name) and outer.func.id in takers
                        self.assertTrue(taken or isinstance(outer, (ast.For, ast.comprehension)), self.where(path, node))
                    if node.func.id == "set":
                        taken = isinstance(outer, ast.Call) and isinstance(outer.func, ast.Name)
                        self.assertTrue(taken and outer.func.id in ("len", "sorted"), self.where(path, node))

    def test_names_in_nested_comprehensions(self):
        kinds = (ast.ListComp, ast.DictComp)
        for path, tree in self.trees.items():
            for function in ast.walk(tree):
                if not isinstance(function, ast.FunctionDef):
                    continue
                assigned = {part.arg for part in ast.walk(function.args) if isinstance(part, ast.arg)}
                for part in ast.walk(function):
                    if isinstance(part, (ast.Assign, ast.For)):
                        targets = part.targets if isinstance(part, ast.Assign) else [part.target]
                        assigned |= {name for target in targets for name in bound_names(target)}
                for outer in ast.walk(function):
                    if not isinstance(outer, kinds):
                        continue
                    taken = assigned | {name for one in outer.generators for name in bound_names(one.target)}
                    for inner in ast.walk(outer):
                        if isinstance(inner, kinds) and inner is not outer:
                            names = {name for one in inner.generators for name in bound_names(one.target)} - {"_"}
                            self.assertFalse(names & taken, self.where(path, inner))

    def test_no_attribute_has_the_name_of_a_method(self):
        methods = {part.name for _, node in self.each() if isinstance(node, ast.ClassDef) for part in node.body
                   if isinstance(part, ast.FunctionDef)}
        for path, node in self.each():
            if isinstance(node, ast.Attribute) and isinstance(node.ctx, ast.Store):
                self.assertNotIn(node.attr, methods, self.where(path, node))

    def test_double_underscore_methods(self):
        for path, tree in self.trees.items():
            inside = {id(part) for node in tree.body if isinstance(node, ast.ClassDef) for part in node.body}
            for node in ast.walk(tree):
                if isinstance(node, ast.FunctionDef) and node.name.startswith("__"):
                    self.assertIn(node.name, ("__init__", "__eq__", "__len__", "__enter__", "__exit__"), self.where(path, node))
                    self.assertIn(id(node), inside)
                if isinstance(node, ast.FunctionDef) and node.name == "__exit__":
                    for part in ast.walk(node):
                        self.assertNotIsInstance(part, (ast.Call, ast.Subscript, ast.Raise, ast.Return, ast.For, ast.While))
                        if isinstance(part, ast.Name):
                            self.assertIn(part.id, ("self", "kind"))

    def test_no_attribute_has_the_name_of_a_property(self):
        named = {part.name for _, node in self.each() if isinstance(node, ast.ClassDef) for part in node.body
                 if isinstance(part, ast.FunctionDef) and part.decorator_list}
        for path, node in self.each():
            if isinstance(node, ast.Attribute) and isinstance(node.ctx, ast.Store):
                self.assertNotIn(node.attr, named, self.where(path, node))

    def test_module_tables_are_only_read(self):
        for path, tree in self.trees.items():
            tables = {node.targets[0].id for node in tree.body
                      if isinstance(node, ast.Assign) and isinstance(node.value, (ast.List, ast.Dict))}
            imported = {name.name for node in tree.body if isinstance(node, ast.ImportFrom) for name in node.names}
            self.assertFalse({name for name in imported if name.isupper()} & {
                node.targets[0].id for other in self.trees.values() for node in other.body
                if isinstance(node, ast.Assign) and isinstance(node.value, (ast.List, ast.Dict))})
            for node in ast.walk(tree):
                if isinstance(node, ast.Call):
                    given = {part.id for part in node.args if isinstance(part, ast.Name)}
                    copied = isinstance(node.func, ast.Name) and node.func.id in ("list", "dict", "len", "sorted", "tuple")
                    self.assertTrue(copied or not given & tables, self.where(path, node))


if __name__ == "__main__":
    unittest.main()
