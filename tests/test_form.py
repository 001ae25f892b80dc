"""The form of the package's files: what ../shared/LANGUAGE.md asks for and a reader of the syntax tree can see."""

import ast
import builtins
import pathlib
import re
import unittest

FOLDER = pathlib.Path(__file__).resolve().parent.parent / "docketloom"
FILES = sorted(FOLDER.rglob("*.py"))
# A doctest that ran before may have left a builtin "_".
ALL_BUILTINS = set(dir(builtins)) - {"_"}
LIBRARY = {"math": {"gcd", "lcm"}}
BUILTINS = set("""len range enumerate zip min max sum abs sorted reversed int str bool list tuple dict set isinstance ord
repr any all divmod ValueError KeyError type""".split())
METHODS = set("""append clear copy count endswith extend find get index insert isalnum isalpha isdigit islower isspace
isupper items join keys ljust lower lstrip partition pop remove replace reverse rfind rjust rpartition rsplit rstrip
setdefault split splitlines startswith strip update upper values zfill bit_length removeprefix removesuffix add
discard isascii translate maketrans""".split())
NOT_USED = set("""mro elements open input law version_info with_traceback add_note register attrgetter breakpoint builtins
compile copyright credits delattr dir eval exec exit gc getattr globals hasattr help id importlib license locals
methodcaller os quit setattr super vars sys""".split())
OF_VALUES = set(dir(str)) | set(dir(int)) | set(dir(list)) | set(dir(dict)) | set(dir(set)) | set(dir(bytes))
TAKERS = {"list", "tuple", "dict", "sorted", "sum", "min", "max", "any", "all"}
STATEMENTS = (ast.Assign, ast.AugAssign, ast.If, ast.While, ast.For, ast.Return, ast.Break, ast.Continue, ast.Pass,
              ast.Raise, ast.Delete, ast.Try, ast.Expr, ast.FunctionDef, ast.ClassDef, ast.ImportFrom)
DUNDERS = {"__init__"}
BARRED_WORDS = re.compile(r"\b(typing|typing_extensions|enum|Enum|IntEnum|Flag|Generic|Protocol|ABC|ABCMeta|namedtuple"
                          r"|NamedTuple|TypedDict|TYPE_CHECKING|abstractmethod|_wall|_WallAttr)\b|dataclass|overload")


def docstrings(tree):
    found = set()
    for node in ast.walk(tree):
        if isinstance(node, (ast.Module, ast.FunctionDef, ast.ClassDef)):
            if node.body and isinstance(node.body[0], ast.Expr) and isinstance(node.body[0].value, ast.Constant):
                found.add(node.body[0].value)
    return found


def parents(tree):
    return {child: node for node in ast.walk(tree) for child in ast.iter_child_nodes(node)}


def bound_names(function):
    """The parameters and the local names of a function."""
    found = {node.arg for node in ast.walk(function) if isinstance(node, ast.arg)}
    found |= {node.id for node in ast.walk(function) if isinstance(node, ast.Name) and isinstance(node.ctx, ast.Store)}
    return found


class Form(unittest.TestCase):
    @classmethod
    def setUpClass(cls):
        cls.trees = {path: ast.parse(path.read_text()) for path in FILES}
        cls.defined = {}
        cls.methods = set()
        for path, tree in cls.trees.items():
            names = set()
            for node in tree.body:
                if isinstance(node, (ast.FunctionDef, ast.ClassDef)):
                    names.add(node.name)
                elif isinstance(node, ast.Assign):
                    names.add(node.targets[0].id)
                if isinstance(node, ast.ClassDef):
                    cls.methods |= {part.name for part in node.body if isinstance(part, ast.FunctionDef)}
            cls.defined[path.stem] = names

    def each(self, *kinds):
        for path, tree in self.trees.items():
            for node in ast.walk(tree):
                if isinstance(node, kinds):
                    yield path, node

    def at(self, path, node):
        return f"{path.name}:{getattr(node, 'lineno', 0)}"

    def test_files(self):
        kept = [path for path in FOLDER.rglob("*") if "__pycache__" not in path.parts]
        self.assertEqual([path for path in kept if path not in FILES], [])
        self.assertLessEqual(len(FILES), 100)
        self.assertIn(FOLDER / "__init__.py", FILES)

    def test_sizes_and_characters(self):
        for path in FILES:
            text = path.read_text()
            rows = text.split("\n")
            self.assertLessEqual(len(rows), 400, path.name)
            self.assertEqual([sign for sign in text if sign != "\n" and not " " <= sign <= "~"], [], path.name)
            for at, row in enumerate(rows, 1):
                self.assertLessEqual(len(row), 120, f"{path.name}:{at}")
                self.assertIsNone(BARRED_WORDS.search(row), f"{path.name}:{at}")
        for path, node in self.each(ast.FunctionDef):
            self.assertLessEqual(node.end_lineno - node.lineno + 1, 40, self.at(path, node))

    def test_imports(self):
        graph = {}
        for path, tree in self.trees.items():
            graph[path.stem] = set()
            for node in ast.walk(tree):
                self.assertNotIsInstance(node, ast.Import, self.at(path, node))
                if not isinstance(node, ast.ImportFrom):
                    continue
                self.assertIn(node, tree.body, self.at(path, node))
                self.assertEqual(node.level, 0, self.at(path, node))
                names = {alias.name for alias in node.names}
                self.assertTrue(all(alias.asname is None for alias in node.names), self.at(path, node))
                if node.module in LIBRARY:
                    self.assertLessEqual(names, LIBRARY[node.module], self.at(path, node))
                    continue
                package, _, stem = node.module.partition(".")
                self.assertEqual(package, "docketloom", self.at(path, node))
                self.assertLessEqual(names, self.defined[stem], self.at(path, node))
                graph[path.stem].add(stem)
        for stem in graph:
            reached = set()
            left = set(graph[stem])
            while left:
                other = left.pop()
                reached.add(other)
                left |= graph[other] - reached
            self.assertNotIn(stem, reached, "a circle of imports")

    def test_every_import_is_used(self):
        for path, tree in self.trees.items():
            used = {node.id for node in ast.walk(tree) if isinstance(node, ast.Name)}
            for node in tree.body:
                if isinstance(node, ast.ImportFrom):
                    for alias in node.names:
                        self.assertIn(alias.name, used, path.name)

    def test_module_level(self):
        plain = (ast.Constant, ast.Tuple, ast.List, ast.Dict, ast.BinOp, ast.UnaryOp, ast.operator, ast.unaryop,
                 ast.expr_context)
        for path, tree in self.trees.items():
            bound = []
            for node in tree.body:
                self.assertIsInstance(node, (ast.Expr, ast.ImportFrom, ast.FunctionDef, ast.ClassDef, ast.Assign))
                if isinstance(node, ast.Expr):
                    self.assertIn(node.value, docstrings(tree), self.at(path, node))
                elif isinstance(node, ast.Assign):
                    self.assertEqual(len(node.targets), 1)
                    self.assertIsInstance(node.targets[0], ast.Name)
                    for part in ast.walk(node.value):
                        self.assertIsInstance(part, plain, self.at(path, node))
                    bound.append(node.targets[0].id)
                elif isinstance(node, ast.ImportFrom):
                    bound += [alias.name for alias in node.names]
                else:
                    bound.append(node.name)
            self.assertEqual(sorted(set(bound)), sorted(bound), path.name)

    def test_statements(self):
        for path, node in self.each(ast.stmt):
            self.assertIsInstance(node, STATEMENTS, self.at(path, node))
        for path, node in self.each(ast.FunctionDef, ast.ClassDef):
            self.assertEqual(node.decorator_list, [], self.at(path, node))
            self.assertIsNotNone(ast.get_docstring(node) or node.name == "__init__" or None, self.at(path, node))
        barred = (ast.NamedExpr, ast.Yield, ast.YieldFrom, ast.Await, ast.Div)
        self.assertEqual([self.at(path, node) for path, node in self.each(*barred)], [])
        for path, node in self.each(ast.BinOp):
            if isinstance(node.op, ast.Pow):
                self.assertIsInstance(node.right, ast.Constant, self.at(path, node))
        for path, node in self.each(ast.ExceptHandler):
            names = [node.type] if isinstance(node.type, ast.Name) else node.type.elts
            for name in names:
                self.assertIn(name.id, self.defined["errors"], self.at(path, node))
        for path, node in self.each(ast.Raise):
            if node.exc is not None:
                self.assertIn(node.exc.func.id, self.defined["errors"], self.at(path, node))

    def test_names(self):
        for path, tree in self.trees.items():
            imported = {alias.name for node in tree.body if isinstance(node, ast.ImportFrom) for alias in node.names}
            classes = {node.name for node in tree.body if isinstance(node, ast.ClassDef)}
            own = self.defined[path.stem] | imported
            for name in own:
                self.assertNotIn(name, ALL_BUILTINS, path.name)
                self.assertNotIn(name, NOT_USED, path.name)
            for node in ast.walk(tree):
                if isinstance(node, ast.FunctionDef):
                    local = bound_names(node)
                    for name in local:
                        where = f"{self.at(path, node)} {name}"
                        self.assertNotIn(name, imported | classes, where)
                        self.assertNotIn(name, ALL_BUILTINS, where)
                        self.assertNotIn(name, NOT_USED, where)
                        self.assertTrue(name == "_" or re.fullmatch(r"[a-zA-Z][a-zA-Z0-9_]*", name), where)
                if isinstance(node, ast.Name) and isinstance(node.ctx, ast.Load):
                    self.assertNotEqual(node.id, "_", self.at(path, node))
                    if node.id in ALL_BUILTINS:
                        self.assertIn(node.id, BUILTINS, self.at(path, node))

    def test_attributes(self):
        for path, node in self.each(ast.Attribute):
            where = f"{self.at(path, node)} {node.attr}"
            self.assertNotIn(node.attr, NOT_USED, where)
            if isinstance(node.ctx, ast.Store):
                self.assertNotIn(node.attr, OF_VALUES, where)
        for path, node in self.each(ast.ClassDef):
            methods = {part.name for part in node.body if isinstance(part, ast.FunctionDef)}
            for part in ast.walk(node):
                if isinstance(part, ast.Attribute) and isinstance(part.ctx, ast.Store) and part.value.id == "self":
                    self.assertNotIn(part.attr, methods, f"{path.name} {part.attr}")
        for path, node in self.each(ast.Call):
            # A method of this name is iterated on the spot, as that of a dict.
            if isinstance(node.func, ast.Attribute) and node.func.attr in ("items", "keys", "values"):
                self.assertNotIn(node.func.attr, self.methods, self.at(path, node))
        for path, node in self.each(ast.Call):
            if isinstance(node.func, ast.Attribute):
                self.assertIn(node.func.attr, METHODS | self.methods, self.at(path, node))
                if node.func.attr in METHODS and node.func.attr != "sort":
                    self.assertEqual(node.keywords, [], self.at(path, node))
            elif node.func.id in ALL_BUILTINS:
                allowed = {"sorted": {"key", "reverse"}, "min": {"key", "default"}, "max": {"key", "default"}}
                for keyword in node.keywords:
                    self.assertIn(keyword.arg, allowed.get(node.func.id, ()), self.at(path, node))
        for name in self.methods:
            if not name.startswith("__"):
                self.assertNotIn(name, OF_VALUES - METHODS, name)
            else:
                self.assertIn(name, DUNDERS)

    def test_is_and_type(self):
        for path, tree in self.trees.items():
            over = parents(tree)
            for node in ast.walk(tree):
                if isinstance(node, ast.Compare):
                    for sign, side in zip(node.ops, node.comparators):
                        if isinstance(sign, (ast.Is, ast.IsNot)):
                            asked = isinstance(node.left, ast.Call) and getattr(node.left.func, "id", "") == "type"
                            plain = isinstance(side, ast.Constant) and side.value in (None, True, False)
                            self.assertTrue(asked or plain, self.at(path, node))
                if isinstance(node, ast.Call) and isinstance(node.func, ast.Name) and node.func.id == "type":
                    self.assertIsInstance(over[node], ast.Compare, self.at(path, node))
                    self.assertEqual(len(node.args), 1, self.at(path, node))

    def test_strings(self):
        for path, tree in self.trees.items():
            texts = docstrings(tree)
            for node in ast.walk(tree):
                if isinstance(node, ast.Constant):
                    self.assertNotIsInstance(node.value, (float, complex, bytes), self.at(path, node))
                    if isinstance(node.value, str) and node not in texts:
                        self.assertNotIn("%", node.value, self.at(path, node))
                        self.assertNotIn("__", node.value, self.at(path, node))
            for found in re.findall(r"\\.", path.read_text()):
                self.assertIn(found, ("\\n", "\\t", "\\\\", '\\"', "\\'"), path.name)

    def test_generator_expressions_and_sets(self):
        for path, tree in self.trees.items():
            over = parents(tree)
            for node in ast.walk(tree):
                if isinstance(node, ast.GeneratorExp):
                    call = over[node]
                    self.assertIsInstance(call, ast.Call, self.at(path, node))
                    self.assertIn(call.func.id, TAKERS, self.at(path, node))
                    self.assertEqual(call.args, [node], self.at(path, node))
                if isinstance(node, (ast.Set, ast.SetComp)):
                    call = over[node]
                    self.assertIsInstance(call, ast.Call, self.at(path, node))
                    self.assertIn(call.func.id, ("sorted", "len"), self.at(path, node))
                if isinstance(node, ast.Call) and isinstance(node.func, ast.Name):
                    self.assertNotIn(node.func.id, ("set", "frozenset", "map", "iter", "next"), self.at(path, node))

    def test_what_is_iterated_is_not_kept(self):
        for path, tree in self.trees.items():
            over = parents(tree)
            for node in ast.walk(tree):
                if not isinstance(node, ast.Call):
                    continue
                name = node.func.id if isinstance(node.func, ast.Name) else node.func.attr
                if name in ("zip", "enumerate", "reversed", "items", "keys", "values"):
                    place = over[node]
                    if isinstance(place, ast.Call):
                        self.assertIn(place.func.id, TAKERS | {"enumerate", "zip"}, self.at(path, node))
                    else:
                        self.assertIsInstance(place, (ast.For, ast.comprehension), self.at(path, node))
                        self.assertIs(place.iter, node, self.at(path, node))

    def test_calls_pass_what_is_taken(self):
        taken = {}
        for _, tree in self.trees.items():
            for node in tree.body:
                if isinstance(node, ast.FunctionDef):
                    least = len(node.args.args) - len(node.args.defaults)
                    taken.setdefault(node.name, []).append((least, len(node.args.args)))
        for path, node in self.each(ast.Call):
            if isinstance(node.func, ast.Name) and node.func.id in taken:
                many = len(node.args) + len(node.keywords)
                self.assertTrue(any(least <= many <= most for least, most in taken[node.func.id]), self.at(path, node))


if __name__ == "__main__":
    unittest.main()
