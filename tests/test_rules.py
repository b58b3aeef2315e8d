"""Rules of the language subset that can be seen in the source of the package."""

import ast
import builtins
import pathlib
import re
import tokenize
import unittest

PACKAGE = pathlib.Path(__file__).resolve().parent.parent / "tongues"

BUILTINS = set("""len range enumerate zip min max sum abs sorted reversed int str bool list tuple dict set
    isinstance ord repr any all divmod super property staticmethod classmethod map iter next
    Exception ValueError TypeError KeyError IndexError LookupError""".split())
VALUE_METHODS = set("""append clear copy count endswith extend find get index insert isalnum isalpha isdigit
    islower isspace isupper items join keys ljust lower lstrip partition pop remove replace reverse rfind rjust
    rpartition rsplit rstrip setdefault split splitlines startswith strip update upper values zfill
    bit_length add discard sort __init__""".split())
BARRED_ATTRIBUTES = set("""items keys values pop update append clear extend insert remove reverse setdefault sort
    args encode decode hex fromhex format""".split())
BARRED_NAMES = set("""register mro elements open input law version_info with_traceback add_note""".split())
BARRED_BINDINGS = set(dir(builtins)) | set("""attrgetter compile copyright credits exit gc help importlib
    license methodcaller os quit sys""".split())
BARRED_WORDS = re.compile(r"\b(type|typing|typing_extensions|enum|Enum|IntEnum|StrEnum|Flag|IntFlag|Generic|Protocol"
                          r"|ABC|ABCMeta|namedtuple|NamedTuple|TypedDict|TYPE_CHECKING|abstractmethod)\b"
                          r"|dataclass|overload|contextmanager|_wall|_WallAttr")
BARRED_BEGINNINGS = re.compile(r"_(wall|pe_|dcw_|enum_|cm_|twin_re_|lay_|law_|stub_|sre|WallAttr)"
                               r"|_(cold|tuplegetter|outside|record|written_out|member_names)[0-9_]*\Z")
ONCE = {"zip", "enumerate", "reversed", "map"}
VIEWS = {"items", "keys", "values"}
TAKERS = {"list", "tuple", "dict", "sorted", "sum", "any", "all", "enumerate", "zip", "min", "max"}
STATEMENTS = (ast.FunctionDef, ast.ClassDef, ast.Return, ast.Assign, ast.AugAssign, ast.For, ast.While, ast.If,
              ast.Raise, ast.Try, ast.Assert, ast.Expr, ast.Pass, ast.Break, ast.Continue, ast.Delete,
              ast.ImportFrom)


def files():
    return sorted(path for path in PACKAGE.iterdir() if path.name != "__pycache__")


def parents_of(tree):
    return {child: node for node in ast.walk(tree) for child in ast.iter_child_nodes(node)}


def bound_names(tree):
    """The names that are bound as variables, parameters, functions, classes or imports, with their lines."""
    for node in ast.walk(tree):
        if isinstance(node, ast.Name) and not isinstance(node.ctx, ast.Load):
            yield node.id, node.lineno
        elif isinstance(node, ast.arg):
            yield node.arg, node.lineno
        elif isinstance(node, (ast.FunctionDef, ast.ClassDef)):
            yield node.name, node.lineno
        elif isinstance(node, ast.alias):
            yield node.asname or node.name, node.lineno


class RulesTest(unittest.TestCase):
    def each(self):
        for path in files():
            source = path.read_text(encoding="utf-8")
            yield path, source, ast.parse(source, str(path))

    def test_files_and_sizes(self):
        self.assertLessEqual(len(files()), 100)
        for path, source, tree in self.each():
            self.assertRegex(path.name, r"\A[a-z_]+\.py\Z")
            self.assertRegex(source, r"\A[ -~\n]*\Z")
            lines = source.split("\n")
            self.assertLessEqual(len(lines), 399)
            self.assertLessEqual(max(map(len, lines)), 120)
            for node in ast.walk(tree):
                if isinstance(node, ast.FunctionDef):
                    self.assertLessEqual(node.end_lineno - node.lineno + 1, 40, node.name)

    def test_imports(self):
        graph = {}
        for path, _, tree in self.each():
            graph[path.stem] = []
            defined = {node.name for node in tree.body if isinstance(node, (ast.FunctionDef, ast.ClassDef))}
            names = [name for name, _ in bound_names(ast.Module(
                [node for node in tree.body if not isinstance(node, (ast.FunctionDef, ast.ClassDef))], []))]
            self.assertEqual(len(names + list(defined)), len(set(names) | defined), path.name)
            for node in ast.walk(tree):
                self.assertNotIsInstance(node, ast.Import)
                if isinstance(node, ast.ImportFrom):
                    self.assertEqual(node.level, 0)
                    self.assertRegex(node.module, r"\Atongues\.[a-z]+\Z")
                    self.check_import(node)
                    graph[path.stem].append(node.module.split(".")[1])
        for name in graph:
            self.assertNotIn(name, self.reached(graph, name))

    def check_import(self, node):
        source = (PACKAGE / (node.module.split(".")[1] + ".py")).read_text()
        tree = ast.parse(source)
        for alias in node.names:
            own = [part for part in tree.body if getattr(part, "name", None) == alias.name]
            own += [part for part in tree.body if isinstance(part, ast.Assign) and part.targets[0].id == alias.name]
            self.assertEqual(len(own), 1, alias.name)

    def reached(self, graph, name):
        found, waiting = set(), list(graph[name])
        while waiting:
            other = waiting.pop()
            if other not in found:
                found.add(other)
                waiting.extend(graph[other])
        return found

    def test_statements(self):
        for _, _, tree in self.each():
            for node in tree.body:
                is_docstring = isinstance(node, ast.Expr) and isinstance(node.value, ast.Constant)
                self.assertTrue(is_docstring or isinstance(
                    node, (ast.ImportFrom, ast.FunctionDef, ast.ClassDef, ast.Assign)), node.lineno)
            for node in ast.walk(tree):
                if isinstance(node, ast.stmt):
                    self.assertIsInstance(node, STATEMENTS, node.lineno)
                if isinstance(node, ast.Expr) and not isinstance(node.value, ast.Constant):
                    self.assertIsInstance(node.value, ast.Call, node.lineno)
                if isinstance(node, (ast.FunctionDef, ast.ClassDef)):
                    self.assertTrue(all(ast.unparse(one) == "property" for one in node.decorator_list), node.lineno)
                if isinstance(node, ast.Raise) and node.exc is not None:
                    self.assertIsInstance(node.exc, ast.Call)
                    self.assertIsInstance(node.exc.func, ast.Name)
                if isinstance(node, ast.ExceptHandler):
                    caught = node.type.elts if isinstance(node.type, ast.Tuple) else [node.type]
                    self.assertTrue(all(isinstance(one, ast.Name) for one in caught), node.lineno)
                self.assertNotIsInstance(node, (ast.Yield, ast.YieldFrom, ast.Await, ast.NamedExpr, ast.Div))

    def test_values(self):
        for _, _, tree in self.each():
            for node in ast.walk(tree):
                if isinstance(node, ast.Constant) and isinstance(node.value, str):
                    self.assertNotIn("%", node.value)
                    self.assertNotIn("__", node.value)
                if isinstance(node, ast.Constant):
                    self.assertIsInstance(node.value, (int, str, type(None)), node.lineno)
                if isinstance(node, ast.Compare):
                    for sign, side in zip(node.ops, node.comparators):
                        if isinstance(sign, (ast.Is, ast.IsNot)):
                            self.assertIsInstance(side, ast.Constant, node.lineno)

    def test_escapes_and_words(self):
        for path, _, _ in self.each():
            with open(path, "rb") as opened:
                parts = list(tokenize.tokenize(opened.readline))
            for part in parts:
                if part.type == tokenize.STRING:
                    rest = re.sub(r"\\[nt\\\"']", "", part.string)
                    self.assertNotIn("\\", rest, part.start)
                is_docstring = part.type == tokenize.STRING and part.string.startswith('"""')
                if part.type != tokenize.COMMENT and not is_docstring:
                    self.assertIsNone(BARRED_WORDS.search(part.string), part.start)

    def test_names(self):
        for _, _, tree in self.each():
            imported = {alias.name for node in tree.body if isinstance(node, ast.ImportFrom) for alias in node.names}
            classes = {node.name for node in tree.body if isinstance(node, ast.ClassDef)}
            top = {id(node) for node in tree.body}
            methods = {id(part) for node in tree.body if isinstance(node, ast.ClassDef) for part in node.body}
            for node in ast.walk(tree):
                for name in (getattr(node, "name", None), getattr(node, "attr", None), getattr(node, "id", None)):
                    self.assertIsNone(name and BARRED_BEGINNINGS.match(name), name)
                if isinstance(node, ast.FunctionDef):
                    if id(node) not in methods:
                        self.assertNotIn(node.name, BARRED_BINDINGS, node.lineno)
                    self.check_locals(node, imported | classes)
                if isinstance(node, ast.Attribute):
                    self.assertNotIn(node.attr, BARRED_NAMES, node.lineno)
                    if not isinstance(node.ctx, ast.Load):
                        self.assertNotIn(node.attr, BARRED_ATTRIBUTES, node.lineno)
                if isinstance(node, ast.Assign) and id(node) in top:
                    self.assertEqual([ast.Name], [node_type.__class__ for node_type in node.targets], node.lineno)

    def check_locals(self, function, outside):
        names = [(node.arg, node.lineno) for node in ast.walk(function) if isinstance(node, ast.arg)]
        names += [(node.id, node.lineno) for node in ast.walk(function)
                  if isinstance(node, ast.Name) and not isinstance(node.ctx, ast.Load)]
        for name, line in names:
            self.assertNotIn(name, outside | BARRED_NAMES, line)
            self.assertNotIn(name, BARRED_BINDINGS, line)
            self.assertRegex(name, r"\A(_|_?[a-z][a-z0-9_]*)\Z", line)
        read = [node for node in ast.walk(function) if isinstance(node, ast.Name) and node.id == "_"
                and isinstance(node.ctx, ast.Load)]
        self.assertEqual(read, [], function.name)

    def test_calls(self):
        own_methods, own_attributes = set(), set()
        for path in files():
            for node in ast.walk(ast.parse(path.read_text())):
                if isinstance(node, ast.FunctionDef):
                    own_methods.add(node.name)
                if isinstance(node, ast.Attribute) and isinstance(node.ctx, ast.Store):
                    own_attributes.add(node.attr)
        for path, _, tree in self.each():
            bound = {name for name, _ in bound_names(tree)}
            for node in ast.walk(tree):
                if isinstance(node, ast.Name) and node.id in dir(builtins):
                    self.assertIn(node.id, BUILTINS, (path.name, node.lineno))
                if isinstance(node, ast.Name) and isinstance(node.ctx, ast.Load):
                    self.assertTrue(node.id in bound or node.id in BUILTINS, (node.id, node.lineno))
                if isinstance(node, ast.Attribute) and isinstance(node.ctx, ast.Load):
                    self.assertIn(node.attr, VALUE_METHODS | own_methods | own_attributes, (path.name, node.lineno))
                if isinstance(node, ast.Call) and isinstance(node.func, ast.Attribute):
                    self.assertIn(node.func.attr, VALUE_METHODS | own_methods, (path.name, node.lineno))

    def test_iterated_at_once(self):
        for path, _, tree in self.each():
            parents = parents_of(tree)
            for node in ast.walk(tree):
                if isinstance(node, ast.Call) and self.is_once(node):
                    parent = parents[node]
                    is_loop = isinstance(parent, (ast.For, ast.comprehension)) and parent.iter is node
                    is_taken = (isinstance(parent, ast.Call) and isinstance(parent.func, ast.Name)
                                and parent.func.id in TAKERS and parent.args[0] is node)
                    self.assertTrue(is_loop or is_taken, (path.name, node.lineno))

    def is_once(self, node):
        if isinstance(node.func, ast.Name):
            return node.func.id in ONCE
        return isinstance(node.func, ast.Attribute) and node.func.attr in VIEWS

    def test_sets(self):
        """A set stands in sorted or len, or is kept by a local variable that is assigned once."""
        for path, _, tree in self.each():
            parents = parents_of(tree)
            for node in ast.walk(tree):
                is_call = isinstance(node, ast.Call) and isinstance(node.func, ast.Name) and node.func.id == "set"
                if is_call or isinstance(node, (ast.Set, ast.SetComp)):
                    parent = parents[node]
                    is_taken = (isinstance(parent, ast.Call) and isinstance(parent.func, ast.Name)
                                and parent.func.id in ("sorted", "len"))
                    is_kept = isinstance(parent, ast.Assign) and isinstance(parent.targets[0], ast.Name)
                    is_tested = isinstance(parent, ast.Compare)
                    self.assertTrue(is_taken or is_kept or is_tested, (path.name, node.lineno))

    def test_generator_expressions(self):
        for path, _, tree in self.each():
            parents = parents_of(tree)
            for node in ast.walk(tree):
                if isinstance(node, ast.GeneratorExp):
                    parent = parents[node]
                    self.assertIsInstance(parent, ast.Call)
                    name = parent.func.id if isinstance(parent.func, ast.Name) else parent.func.attr
                    self.assertIn(name, TAKERS | {"join"}, (path.name, node.lineno))

    def test_methods_and_attributes_of_a_class_differ(self):
        for _, _, tree in self.each():
            for node in tree.body:
                if isinstance(node, ast.ClassDef):
                    methods = [part.name for part in node.body if isinstance(part, ast.FunctionDef)]
                    stored = {part.attr for part in ast.walk(node) if isinstance(part, ast.Attribute)
                              and isinstance(part.ctx, ast.Store)}
                    self.assertEqual(len(methods), len(set(methods)), node.name)
                    self.assertEqual(set(methods) & stored, set(), node.name)
                    self.assertTrue(set(methods).isdisjoint(BARRED_NAMES | {"next", "iter", "map"}))


if __name__ == "__main__":
    unittest.main()
