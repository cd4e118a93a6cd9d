"""The rules of the language that can be seen in the files of the package."""

import ast
import pathlib
import unittest
import warnings

FOLDER = pathlib.Path(__file__).resolve().parent.parent / "alltriangular"

BUILTINS = set("""len range enumerate zip min max sum abs sorted reversed int str bool bytes list tuple dict set
frozenset isinstance ord repr any all divmod pow getattr hasattr setattr map iter next super property staticmethod
classmethod Exception ValueError TypeError KeyError IndexError LookupError ZeroDivisionError ArithmeticError
OverflowError RuntimeError NotImplementedError AttributeError StopIteration NotImplemented""".split())

PYTHONS_NAMES = set(dir(__builtins__) if not isinstance(__builtins__, dict) else __builtins__)

LIBRARY = {
    "heapq": {"heappush", "heappop", "heapify", "heapreplace", "heappushpop"},
    "math": {"gcd", "lcm", "isqrt", "comb", "perm", "factorial"},
    "itertools": {"product", "combinations", "permutations", "chain", "accumulate", "pairwise", "islice", "zip_longest"},
    "collections": {"defaultdict"},
    "__future__": {"annotations"},
}

# L8, L12: the only names that may begin with two underscores.
SPECIAL = set("""init eq repr str len enter exit call iter lt le gt ge ne add sub mul floordiv mod pow and or xor lshift
rshift radd rsub rmul rfloordiv rmod rand ror rxor rlshift rrshift iadd isub imul ifloordiv imod ipow iand ior ixor
ilshift irshift neg pos invert abs bool contains getitem setitem all version name class slots""".split())

# L17: words that stand nowhere as names.
BARRED = {"register", "mro", "elements", "open", "input", "law", "version_info", "with_traceback", "add_note"}

# L25: the methods of builtin values that may be called.
METHODS = set("""append clear copy count endswith extend find get index insert isalnum isalpha isdigit islower isspace
isupper items join keys ljust lower lstrip partition pop remove replace reverse rfind rjust rpartition rsplit rstrip
setdefault split splitlines startswith strip update upper values zfill bit_length title capitalize swapcase casefold
center expandtabs removeprefix removesuffix rindex isascii isdecimal isnumeric istitle isidentifier isprintable
translate encode decode hex add discard format""".split())

# L17: words that occur nowhere but in comments and docstrings.
UNWRITTEN = set("""type typing typing_extensions enum Enum IntEnum StrEnum Flag IntFlag Generic Protocol ABC ABCMeta namedtuple
NamedTuple TypedDict TYPE_CHECKING abstractmethod""".split())

# L5, L6: the parameters of double-underscore methods, where they are told.
PARAMETERS = {"__eq__": ["self", "other"], "__repr__": ["self"], "__str__": ["self"], "__len__": ["self"], "__bool__": ["self"],
              "__enter__": ["self"], "__exit__": ["self", "kind", "value", "trace"], "__iter__": ["self"],
              "__contains__": ["self", "x"], "__getitem__": ["self", "at"], "__setitem__": ["self", "at", "worth"]}

# L22: the keywords of builtins.
KEYWORDS = {"sorted": {"key", "reverse"}, "min": {"key", "default"}, "max": {"key", "default"}, "sum": {"start"},
            "enumerate": {"start"}, "zip": {"strict"}}

# L23: what may iterate over a zip and the like that is not kept.
AT_ONCE = set("list tuple dict sorted sum any all enumerate zip min max".split())

OUTSIDE = (ast.Global, ast.AsyncFunctionDef, ast.AsyncFor, ast.AsyncWith, ast.Await, ast.GeneratorExp, ast.Div,
           ast.MatMult)


def files():
    return sorted(FOLDER.glob("*.py"))


def trees():
    return [(path, ast.parse(path.read_text())) for path in files()]


def nodes():
    return [(path, node) for path, tree in trees() for node in ast.walk(tree)]


def bound_names(node):
    """The names that a node binds."""
    if isinstance(node, ast.Name) and isinstance(node.ctx, ast.Store):
        return [node.id]
    if isinstance(node, ast.arg):
        return [node.arg]
    if isinstance(node, (ast.FunctionDef, ast.ClassDef)):
        return [node.name]
    if isinstance(node, ast.alias):
        return [node.asname or node.name]
    if isinstance(node, ast.ExceptHandler) and node.name:
        return [node.name]
    return []


class FilesTest(unittest.TestCase):
    def test_one_folder_of_python_files(self):
        for path in FOLDER.iterdir():
            if path.name != "__pycache__":
                self.assertRegex(path.name, r"\A(__init__|__main__|[a-z][a-z0-9_]*)\.py\Z")
        self.assertTrue((FOLDER / "__init__.py").is_file())
        self.assertFalse([path for path in FOLDER.iterdir() if path.name.startswith("test")])

    def test_characters_and_lengths(self):
        for path in files():
            data = path.read_bytes()
            self.assertEqual([byte for byte in data if byte != 10 and not 32 <= byte <= 126], [], path)
            lines = data.decode().split("\n")
            self.assertLessEqual(len(lines), 399, path)
            for line in lines:
                self.assertLessEqual(len(line), 120, (path, line))

    def test_no_warnings(self):
        for path in files():
            with warnings.catch_warnings():
                warnings.simplefilter("error")
                compile(path.read_text(), str(path), "exec")

    def test_functions_are_short(self):
        for path, node in nodes():
            if isinstance(node, ast.FunctionDef):
                self.assertLessEqual(node.end_lineno - node.lineno + 1, 40, (path, node.name))


class RulesTest(unittest.TestCase):
    def test_imports(self):
        for path, node in nodes():
            self.assertNotIsInstance(node, ast.Import, path)
            if isinstance(node, ast.ImportFrom):
                self.assertEqual(node.level, 0, path)
                names = {alias.name for alias in node.names}
                self.assertEqual([alias.asname for alias in node.names if alias.asname], [], path)
                if node.module in LIBRARY:
                    self.assertLessEqual(names, LIBRARY[node.module], path)
                else:
                    file = FOLDER.parent / (node.module.replace(".", "/") + ".py")
                    self.assertEqual(node.module.split(".")[0], "alltriangular", path)
                    self.assertLessEqual(names, self.defined(file), path)

    def defined(self, file):
        """The names that a file defines itself."""
        found = set()
        for node in ast.parse(file.read_text()).body:
            if isinstance(node, (ast.FunctionDef, ast.ClassDef)):
                found.add(node.name)
            elif isinstance(node, ast.Assign):
                found.update(target.id for target in node.targets)
        return found

    def test_module_level(self):
        for path, tree in trees():
            for node in tree.body:
                self.assertIsInstance(node, (ast.ImportFrom, ast.FunctionDef, ast.ClassDef, ast.Assign, ast.Expr), path)
                if isinstance(node, ast.Expr):
                    self.assertIsInstance(node.value, ast.Constant, path)
                    self.assertIsInstance(node.value.value, str, path)

    def test_nothing_outside_the_language(self):
        for path, node in nodes():
            self.assertNotIsInstance(node, OUTSIDE, (path, getattr(node, "lineno", None)))
            if isinstance(node, ast.Constant):
                self.assertNotIsInstance(node.value, (float, complex), path)

    def test_decorators(self):
        for path, node in nodes():
            if isinstance(node, ast.ClassDef):
                self.assertEqual(node.decorator_list, [], path)
            if isinstance(node, ast.FunctionDef):
                for mark in node.decorator_list:
                    self.assertRegex(ast.unparse(mark), r"\A(property|staticmethod|classmethod|[a-z_]+\.setter)\Z")

    def test_names(self):
        for path, node in nodes():
            for name in bound_names(node) + ([node.attr] if isinstance(node, ast.Attribute) else []):
                self.assertNotIn(name, BARRED, path)
                self.assertRegex(name, r"\A(_|_?[A-Za-z][A-Za-z0-9_]*|__[a-z]+__)\Z", path)
                if name.startswith("__"):
                    self.assertIn(name.strip("_"), SPECIAL, path)
        for path, tree in trees():
            inside = {node for top in ast.walk(tree) if isinstance(top, ast.ClassDef) for node in top.body}
            for node in ast.walk(tree):
                if node not in inside:
                    for name in bound_names(node):
                        self.assertNotIn(name, PYTHONS_NAMES - {"_"}, path)

    def test_builtins(self):
        for path, tree in trees():
            for node in ast.walk(tree):
                if isinstance(node, ast.Name) and isinstance(node.ctx, ast.Load) and node.id in PYTHONS_NAMES:
                    self.assertIn(node.id, BUILTINS, (path, node.lineno))

    def test_names_are_bound_once_at_module_level(self):
        for path, tree in trees():
            names = []
            for node in tree.body:
                found = node.names if isinstance(node, ast.ImportFrom) else getattr(node, "targets", [node])
                names.extend(name for part in found for name in bound_names(part))
            self.assertEqual(len(names), len(set(names)), path)
            for node in ast.walk(tree):
                if isinstance(node, (ast.arg, ast.Name)):
                    for name in bound_names(node):
                        if node not in [target for top in tree.body for target in getattr(top, "targets", [])]:
                            self.assertNotIn(name, names, path)

    def test_methods(self):
        own = {node.name for _, node in nodes() if isinstance(node, ast.FunctionDef)}
        for path, node in nodes():
            if isinstance(node, ast.Call) and isinstance(node.func, ast.Attribute):
                self.assertIn(node.func.attr, METHODS | own, (path, node.lineno))

    def test_calls_of_builtins(self):
        for path, node in nodes():
            if isinstance(node, ast.Call) and isinstance(node.func, ast.Name) and node.func.id in PYTHONS_NAMES:
                name, told = node.func.id, (path, node.lineno)
                self.assertLessEqual({word.arg for word in node.keywords}, KEYWORDS.get(name, set()), told)
                if name not in ("max", "min", "zip"):
                    self.assertEqual([one for one in node.args if isinstance(one, ast.Starred)], [], told)

    def test_functions_of_the_library(self):
        """They are only called, by their bare names, without stars and keywords."""
        names = set().union(*LIBRARY.values()) - {"annotations"}
        for path, tree in trees():
            taken = {alias.name for node in tree.body if isinstance(node, ast.ImportFrom) and node.module in LIBRARY
                     for alias in node.names} & names
            calls = [node for node in ast.walk(tree) if isinstance(node, ast.Call)
                     and isinstance(node.func, ast.Name) and node.func.id in taken]
            self.assertEqual([node for node in calls if node.keywords], [], path)
            self.assertEqual([one for node in calls for one in node.args if isinstance(one, ast.Starred)], [], path)
            used = [node for node in ast.walk(tree) if isinstance(node, ast.Name) and node.id in taken]
            self.assertEqual(len(used), len(calls), path)

    def test_iterated_at_once(self):
        for path, tree in trees():
            for node in ast.walk(tree):
                if isinstance(node, (ast.For, ast.comprehension)):
                    allowed = [node.iter]
                elif isinstance(node, ast.Call) and isinstance(node.func, ast.Name) and node.func.id in AT_ONCE:
                    allowed = node.args
                elif isinstance(node, ast.Compare) and isinstance(node.ops[0], (ast.In, ast.NotIn)):
                    allowed = node.comparators
                else:
                    allowed = []
                for one in ast.iter_child_nodes(node):
                    if isinstance(one, ast.Call) and isinstance(one.func, ast.Name):
                        if one.func.id in ("zip", "enumerate", "reversed", "range", "map"):
                            self.assertIn(one, allowed, (path, one.lineno))

    def test_sets(self):
        """A set stands in sorted or len, or behind in, and is not kept."""
        for path, tree in trees():
            for node in ast.walk(tree):
                for one in ast.iter_child_nodes(node):
                    plain = isinstance(one, ast.Call) and isinstance(one.func, ast.Name) and one.func.id == "set"
                    if plain or isinstance(one, (ast.Set, ast.SetComp)):
                        self.assertIsInstance(node, (ast.Call, ast.Compare), (path, one.lineno))
                        if isinstance(node, ast.Call):
                            self.assertIn(node.func.id, ("sorted", "len"), (path, one.lineno))

    def test_no_two_files_need_each_other(self):
        needs = {path.stem: {node.module.split(".")[-1] for node in tree.body if isinstance(node, ast.ImportFrom)
                             and node.module.startswith("alltriangular")} for path, tree in trees()}
        while needs:
            free = [name for name, others in needs.items() if not others & set(needs)]
            self.assertTrue(free, needs)
            needs = {name: others for name, others in needs.items() if name not in free}

    def test_caught_errors(self):
        barred = {"Exception", "TypeError", "ArithmeticError", "OverflowError", "RuntimeError", "NotImplementedError",
                  "AttributeError", "BaseException"}
        for path, node in nodes():
            if isinstance(node, ast.ExceptHandler):
                self.assertIsNotNone(node.type, path)
                named = {part.id for part in ast.walk(node.type) if isinstance(part, ast.Name)}
                self.assertEqual(named & barred, set(), path)

    def test_identity(self):
        for path, node in nodes():
            if isinstance(node, ast.Compare):
                for sign, right in zip(node.ops, node.comparators):
                    if isinstance(sign, (ast.Is, ast.IsNot)):
                        told = (ast.unparse(node.left), ast.unparse(right))
                        self.assertTrue({"None", "True", "False", "self"} & set(told), (path, told))

    def test_words_that_do_not_occur(self):
        for path, node in nodes():
            for name in bound_names(node) + [getattr(node, "attr", ""), getattr(node, "id", "")]:
                self.assertNotIn(name, UNWRITTEN, path)
        docstrings = {id(top.body[0].value) for _, top in nodes() if isinstance(top, (ast.Module, ast.FunctionDef, ast.ClassDef))
                      if isinstance(top.body[0], ast.Expr)}
        for path, node in nodes():
            if isinstance(node, ast.Constant) and isinstance(node.value, str) and id(node) not in docstrings:
                self.assertFalse(set(node.value.split()) & UNWRITTEN, path)
        for path in files():
            for part in ("(type)", "Meta", "metaclass="):
                self.assertNotIn(part, path.read_text())

    def test_double_underscore_methods(self):
        for path, tree in trees():
            for top in ast.walk(tree):
                for node in top.body if isinstance(top, ast.ClassDef) else []:
                    if isinstance(node, ast.FunctionDef) and node.name in PARAMETERS:
                        self.assertEqual([one.arg for one in node.args.args], PARAMETERS[node.name], (path, node.name))
                        self.assertIsInstance(node.body[-1], ast.Assign if node.name in ("__exit__", "__setitem__") else (ast.Return, ast.Raise))
                    if isinstance(node, ast.FunctionDef) and node.name == "__len__":
                        self.assertEqual([ast.unparse(one.value.func) for one in ast.walk(node) if isinstance(one, ast.Return)], ["len"])

    def test_classes_with_items_are_not_iterated(self):
        """L5: a class with __getitem__ has an __iter__, which raises TypeError."""
        for path, tree in trees():
            for top in ast.walk(tree):
                if isinstance(top, ast.ClassDef):
                    methods = {node.name: node for node in top.body if isinstance(node, ast.FunctionDef)}
                    if "__getitem__" in methods:
                        self.assertRegex(ast.unparse(methods["__iter__"].body[-1]), r"\Araise TypeError\(")

    def test_rows_of_exit(self):
        """L6: only attributes that are assigned names and attributes, and questions whether there is an exception."""
        for path, node in nodes():
            if isinstance(node, ast.FunctionDef) and node.name == "__exit__":
                for row in ast.walk(node):
                    self.assertNotIsInstance(row, (ast.Call, ast.Subscript, ast.BinOp, ast.For, ast.While, ast.Try, ast.Raise), path)
                    if isinstance(row, ast.If):
                        self.assertIn(ast.unparse(row.test), ("kind is None", "kind is not None"))
                    if isinstance(row, ast.Name):
                        self.assertNotIn(row.id, ("value", "trace"))

    def test_operators_change_nothing(self):
        """L5: no attribute and no item of what an operator, but for __setitem__, or a property did not create."""
        for path, node in nodes():
            if isinstance(node, ast.FunctionDef) and (node.name in set(PARAMETERS) - {"__setitem__", "__exit__", "__enter__"} or any(
                    ast.unparse(mark) == "property" for mark in node.decorator_list)):
                for row in ast.walk(node):
                    self.assertNotIsInstance(row, (ast.Assign, ast.AugAssign, ast.Delete), (path, node.name))

    def test_tables_of_functions(self):
        """L3: at module level a table has only functions that its own file defines above it."""
        for path, tree in trees():
            above = set()
            for node in tree.body:
                if isinstance(node, ast.FunctionDef):
                    above.add(node.name)
                elif isinstance(node, ast.Assign):
                    named = {one.id for one in ast.walk(node.value) if isinstance(one, ast.Name)}
                    self.assertLessEqual(named, above, path)
                    self.assertEqual(len(node.targets), 1)

    def test_attributes_are_assigned(self):
        """L18: what is read off an object is assigned to one, or is a method or a property."""
        known = METHODS | {node.name for _, node in nodes() if isinstance(node, ast.FunctionDef)}
        known |= {node.attr for _, node in nodes() if isinstance(node, ast.Attribute) and isinstance(node.ctx, ast.Store)}
        for path, node in nodes():
            if isinstance(node, ast.Attribute):
                self.assertIn(node.attr, known, (path, node.lineno))
                if isinstance(node.ctx, ast.Store):
                    self.assertIsInstance(node.value, ast.Name, path)

    def test_properties_are_not_assigned(self):
        properties = {node.name for _, node in nodes() if isinstance(node, ast.FunctionDef)
                      for mark in node.decorator_list if ast.unparse(mark) == "property"}
        methods = {node.name for _, top in nodes() if isinstance(top, ast.ClassDef) for node in top.body
                   if isinstance(node, ast.FunctionDef) and not node.decorator_list}
        self.assertEqual(properties & methods, set())
        for path, node in nodes():
            if isinstance(node, ast.Attribute) and isinstance(node.ctx, ast.Store):
                self.assertNotIn(node.attr, properties, path)
                self.assertNotIn(node.attr, methods, path)

    def test_strings(self):
        for path, node in nodes():
            if isinstance(node, ast.Constant) and isinstance(node.value, str):
                self.assertNotIn(chr(37), node.value, path)


if __name__ == "__main__":
    unittest.main()
