import ast
import builtins
import pathlib
import re
import unittest

PACKAGE = pathlib.Path(__file__).resolve().parent.parent / "flowform"
INTERFACE = {
    "errors": "FlowError UnknownFlag FlagTwice OutsideOfLoop TextError TooManyFlags TooManyConfigurations "
              "TooManyNodes TooManyPositions TryInFinally TooLarge NoStatement TooManyVersions RunOver",
    "words": "is_name(text) is_outcome(text)",
    "programs": "size(program) places(program) depths(program)",
    "paths": "walk(program) statement_at(program,path) replaced(program,path,statements)",
    "names": "resolve(program) jump_depth(resolved)",
    "tokens": "tokens(text)",
    "reader": "read_program(text) read_condition(text)",
    "printer": "show_program(program) show_condition(condition)",
    "templates": "fill(strings,parts)",
    "running": "run(program,answers) Run",
    "exploring": "explored(resolved)",
    "graphs": "run_graph(graph,answers) event(graph,answers) classes(graph) minimal(graph) rooted(graph,node)",
    "coding": "run_code(code,answers) code_graph(code)",
    "assembling": "assembled(resolved)",
    "copying": "without_try(resolved)",
    "flows": "flow_graph(program)",
    "comparing": "compare(first,second) matching(first,second) check_matching(first,second,pairs)",
    "stores": "observe(graph,meaning,store,*,most) experiment(first,second)",
    "suites": "suite(graph,*,extra=0)",
    "conditions": "leads(graph,condition,node) earlier_condition(first,second) first_conditions(graph) "
                  "first_condition(graph,node,if_true,if_false)",
    "positions": "position_count(graph,depth) positions(graph,depth) possible(graph,depth,known)",
    "sizes": "least_sizes(graph,depth) least_size(graph,depth) check_sizes(graph,depth,sizes)",
    "behaving": "behaves(graph,place,block)",
    "ordering": "earlier_block(first,second)",
    "blocks": "first_block(graph,depth,position) smallest(graph,depth)",
    "naming": "named(resolved)",
    "restructuring": "restructure(graph,depth) structured(graph) with_flags(graph)",
    "refutations": "refute(graph,depth) check_refutation(graph,depth,triples)",
    "sessions": "redundant(program) reduced(program) Session",
}
METHODS_OF_CLASSES = {
    ("running", "Run"): "__init__(self,program) answer(self,value) event(self) is_over(self) answers(self) "
                        "__len__(self) __iter__(self)",
    ("sessions", "Session"): "__init__(self,program) replace_at(self,path,statements) replace_text(self,path,text) "
                             "undo(self) redo(self) program(self) versions(self) flow(self) __len__(self) "
                             "__iter__(self)",
}
PROPERTIES = {("running", "Run"): "event is_over answers", ("sessions", "Session"): "program versions flow"}
GENERATORS = {"walk", "first_conditions", "positions"}
CALLED_BY_NAME_ONLY = {"heappush", "heappop", "heapify"}
LIBRARY = ("heapq", "math", "itertools", "collections")
BUILTINS = (
    "len range enumerate zip min max sum abs sorted reversed int str bool bytes list tuple dict set frozenset "
    "isinstance ord repr any all divmod pow getattr hasattr setattr iter next map Exception ValueError TypeError "
    "KeyError IndexError LookupError ZeroDivisionError ArithmeticError OverflowError RuntimeError "
    "NotImplementedError AttributeError StopIteration NotImplemented super property staticmethod classmethod"
).split()
METHODS = (
    "append clear copy count endswith extend find get index insert isalnum isalpha isdigit islower isspace isupper "
    "items join keys ljust lower lstrip partition pop remove replace reverse rfind rjust rpartition rsplit rstrip "
    "setdefault split splitlines startswith strip update upper values zfill bit_length add discard __init__"
).split()
BARRED = (
    "register mro elements open input law version_info with_traceback add_note typing typing_extensions enum Enum "
    "IntEnum StrEnum Flag IntFlag Generic Protocol ABC ABCMeta namedtuple NamedTuple TypedDict TYPE_CHECKING "
    "abstractmethod attrgetter breakpoint compile delattr dir eval exec exit gc globals help id importlib license "
    "locals methodcaller os quit type vars sys __name__"
).split()
FUNCTIONS = (ast.FunctionDef, ast.Lambda)


def parsed_files():
    return {path: ast.parse(path.read_text()) for path in sorted(PACKAGE.glob("*.py"))}


def with_arguments(function):
    """Return the name of a function and what it takes, as it is written."""
    return function.name + "(" + ast.unparse(function.args).replace(" ", "") + ")"


def bound_names(tree):
    """Return all names that are given a meaning in a tree, but for its imports and attributes."""
    names = []
    for node in ast.walk(tree):
        if isinstance(node, ast.Name) and isinstance(node.ctx, ast.Store):
            names.append(node.id)
        elif isinstance(node, ast.arg):
            names.append(node.arg)
        elif isinstance(node, ast.ExceptHandler) and node.name:
            names.append(node.name)
    return names


def has_yield(function):
    """Return True if the function itself is a generator."""
    return any(isinstance(node, (ast.Yield, ast.YieldFrom)) for node in ast.walk(function))


class LanguageTest(unittest.TestCase):
    """The rules on the form of the code that can be told from its text and its syntax tree."""

    @classmethod
    def setUpClass(cls):
        cls.files = parsed_files()

    def test_files(self):
        self.assertTrue((PACKAGE / "__init__.py").exists())
        for path in PACKAGE.iterdir():
            if path.name != "__pycache__":
                self.assertRegex(path.name, r"\A(__init__|[a-z][a-z0-9_]*)\.py\Z")
        for path in self.files:
            text = path.read_text()
            lines = text.split("\n")
            self.assertLessEqual(len(lines), 400, path)
            self.assertTrue(all(len(line) <= 120 and line == line.rstrip() for line in lines), path)
            self.assertTrue(all(" " <= character <= "~" or character == "\n" for character in text), path)
            self.assertEqual(re.findall(r"\\[^nt\\'\"]", text), [], path)

    def test_interface(self):
        for name, listed in INTERFACE.items():
            tree = self.files[PACKAGE / (name + ".py")]
            defined = {}
            for node in tree.body:
                if isinstance(node, ast.ClassDef):
                    defined[node.name] = node.name
                elif isinstance(node, ast.FunctionDef):
                    defined[node.name] = with_arguments(node)
            for wanted in listed.split():
                self.assertEqual(defined.get(wanted.partition("(")[0]), wanted, name)

    def test_methods_of_the_interface(self):
        for (module, name), listed in METHODS_OF_CLASSES.items():
            tree = self.files[PACKAGE / (module + ".py")]
            found = [node for node in tree.body if isinstance(node, ast.ClassDef) and node.name == name]
            methods = [node for node in found[0].body if isinstance(node, ast.FunctionDef)]
            self.assertEqual({with_arguments(node) for node in methods}, set(listed.split()))
            decorated = {node.name for node in methods if node.decorator_list}
            self.assertEqual(decorated, set(PROPERTIES[module, name].split()))

    def test_decorators(self):
        for path, tree in self.files.items():
            for node in ast.walk(tree):
                if isinstance(node, (ast.FunctionDef, ast.ClassDef)):
                    self.assertIn([ast.unparse(one) for one in node.decorator_list], ([], ["property"]), path)

    def test_double_underscore_methods(self):
        for path, tree in self.files.items():
            for node in ast.walk(tree):
                if isinstance(node, ast.FunctionDef) and node.name == "__len__":
                    self.assertRegex(ast.unparse(node.body[-1]), r"\Areturn len\(self\.\w+\)\Z", path)
                elif isinstance(node, ast.FunctionDef) and node.name == "__iter__":
                    self.assertRegex(ast.unparse(node), r"\Adef __iter__\(self\):\n +return iter\(self\.\w+\)\Z", path)

    def test_properties_have_names_of_their_own(self):
        functions = [node for tree in self.files.values() for node in ast.walk(tree) if isinstance(node, ast.ClassDef)]
        methods = [item for node in functions for item in node.body if isinstance(item, ast.FunctionDef)]
        properties = {item.name for item in methods if item.decorator_list}
        self.assertEqual(properties & {item.name for item in methods if not item.decorator_list}, set())
        for kind in (list, str, dict, set, int, tuple):
            self.assertEqual(properties & set(dir(kind)), set())
        for tree in self.files.values():
            for node in ast.walk(tree):
                if isinstance(node, ast.Attribute) and isinstance(node.ctx, ast.Store):
                    self.assertNotIn(node.attr, properties)

    def test_sets(self):
        for path, tree in self.files.items():
            made = {node.func.id for node in ast.walk(tree) if isinstance(node, ast.Call)
                    and isinstance(node.func, ast.Name)}
            self.assertNotIn("frozenset", made, path)
            names = [node.targets[0].id for node in ast.walk(tree) if isinstance(node, ast.Assign)
                     and ast.unparse(node.value).startswith("set(")]
            for function in [node for node in ast.walk(tree) if isinstance(node, ast.FunctionDef)]:
                for node in ast.walk(function):
                    if isinstance(node, (ast.For, ast.comprehension)) and isinstance(node.iter, ast.Name):
                        self.assertNotIn(node.iter.id, names, path)
                    if isinstance(node, ast.Return) and isinstance(node.value, ast.Name):
                        self.assertNotIn(node.value.id, names, path)

    def test_exponents(self):
        for path, tree in self.files.items():
            for node in ast.walk(tree):
                if isinstance(node, ast.BinOp) and isinstance(node.op, ast.Pow):
                    self.assertIsInstance(node.right, ast.Constant, path)

    def test_generators(self):
        """Generators are iterated at once, and nothing else has the name of one that the interface lists."""
        makers = {node.name for tree in self.files.values() for node in ast.walk(tree)
                  if isinstance(node, ast.FunctionDef) and has_yield(node)}
        self.assertLessEqual(GENERATORS, makers)
        for path, tree in self.files.items():
            iterated = []
            for node in ast.walk(tree):
                if isinstance(node, (ast.For, ast.comprehension)):
                    iterated.append(node.iter)
                elif isinstance(node, ast.YieldFrom):
                    iterated.append(node.value)
                self.assertNotIsInstance(node, ast.GeneratorExp, path)
            for node in ast.walk(tree):
                if isinstance(node, ast.Call) and isinstance(node.func, ast.Name) and node.func.id in makers:
                    self.assertIn(node, iterated, path)
            self.assertEqual(makers & set(bound_names(tree)), set(), path)
        names = [node.name for tree in self.files.values() for node in ast.walk(tree)
                 if isinstance(node, ast.FunctionDef)]
        for name in makers:
            self.assertEqual(names.count(name), 1)

    def test_names_of_the_library(self):
        for path, tree in self.files.items():
            called = [node.func for node in ast.walk(tree) if isinstance(node, ast.Call)]
            for node in ast.walk(tree):
                if isinstance(node, ast.Name) and node.id in CALLED_BY_NAME_ONLY:
                    self.assertIn(node, called, path)

    def test_methods_and_attributes_have_different_names(self):
        classes = [node for tree in self.files.values() for node in ast.walk(tree) if isinstance(node, ast.ClassDef)]
        methods = {item.name for node in classes for item in node.body if isinstance(item, ast.FunctionDef)}
        for tree in self.files.values():
            for node in ast.walk(tree):
                if isinstance(node, ast.Attribute) and isinstance(node.ctx, ast.Store):
                    self.assertNotIn(node.attr, methods)

    def test_module_level(self):
        for path, tree in self.files.items():
            names = []
            for node in tree.body:
                docstring = node is tree.body[0] and isinstance(node, ast.Expr)
                kinds = (ast.ImportFrom, ast.FunctionDef, ast.ClassDef, ast.Assign)
                self.assertTrue(docstring or isinstance(node, kinds), path)
                if isinstance(node, ast.Assign):
                    self.assertEqual(len(node.targets), 1)
                    ast.literal_eval(node.value)
                    names.append(node.targets[0].id)
                elif isinstance(node, (ast.FunctionDef, ast.ClassDef)):
                    names.append(node.name)
                elif isinstance(node, ast.ImportFrom):
                    names += [alias.name for alias in node.names]
            self.assertEqual(len(names), len(set(names)), path)

    def test_imports(self):
        imported_files = {}
        for path, tree in self.files.items():
            imported_files[path.stem] = []
            for node in ast.walk(tree):
                self.assertNotIsInstance(node, ast.Import)
                if isinstance(node, ast.ImportFrom):
                    self.assertEqual(node.level, 0)
                    self.assertTrue(all(alias.asname is None for alias in node.names))
                    if node.module not in LIBRARY:
                        package, _, module = node.module.partition(".")
                        self.assertEqual(package, "flowform")
                        imported_files[path.stem].append(module)
                        self.check_defined(module, [alias.name for alias in node.names])
        done = []
        while len(done) < len(imported_files):
            ready = [name for name in imported_files if name not in done and set(imported_files[name]) <= set(done)]
            self.assertNotEqual(ready, [], "two files import from each other")
            done += ready

    def check_defined(self, module, names):
        tree = self.files[PACKAGE / (module + ".py")]
        defined = [node.name for node in tree.body if isinstance(node, (ast.FunctionDef, ast.ClassDef))]
        defined += [node.targets[0].id for node in tree.body if isinstance(node, ast.Assign)]
        for name in names:
            self.assertIn(name, defined)

    def test_functions(self):
        for path, tree in self.files.items():
            for node in ast.walk(tree):
                if isinstance(node, ast.FunctionDef):
                    self.assertLessEqual(node.end_lineno - node.lineno + 1, 40, (path, node.name))

    def test_names(self):
        for path, tree in self.files.items():
            used = [alias.name for node in ast.walk(tree) if isinstance(node, ast.ImportFrom) for alias in node.names]
            used += [node.name for node in ast.walk(tree) if isinstance(node, ast.ClassDef)]
            functions = [node.name for node in ast.walk(tree) if isinstance(node, (ast.FunctionDef, ast.ClassDef))]
            for name in bound_names(tree):
                self.assertNotIn(name, used, path)
            for name in bound_names(tree) + functions:
                self.assertFalse(name in vars(builtins), (path, name))
                self.assertRegex(name, r"\A(_?[A-Za-z][A-Za-z0-9_]*|_|__[a-z]+__)\Z")
            for node in ast.walk(tree):
                if isinstance(node, ast.Name) and isinstance(node.ctx, ast.Load):
                    self.assertNotEqual(node.id, "_", path)
                    self.assertTrue(node.id in BUILTINS or node.id not in vars(builtins), (path, node.id))

    def test_methods(self):
        own = []
        for tree in self.files.values():
            for node in ast.walk(tree):
                if isinstance(node, ast.ClassDef):
                    own += [item.name for item in node.body if isinstance(item, ast.FunctionDef)]
        for path, tree in self.files.items():
            for node in ast.walk(tree):
                if isinstance(node, ast.Call) and isinstance(node.func, ast.Attribute):
                    self.assertIn(node.func.attr, METHODS + own, path)

    def test_words_that_are_not_used(self):
        for path, tree in self.files.items():
            docstrings = [
                node.body[0].value for node in ast.walk(tree)
                if isinstance(node, (ast.Module, ast.ClassDef, ast.FunctionDef)) and ast.get_docstring(node)]
            for node in ast.walk(tree):
                if isinstance(node, ast.Constant) and isinstance(node.value, str):
                    self.assertNotIn("%", node.value, path)
                    self.assertFalse(node.value.endswith(("._", ".__")), path)
                    words = [] if node in docstrings else re.findall(r"\w+", node.value)
                elif isinstance(node, ast.Name):
                    words = [node.id]
                elif isinstance(node, ast.Attribute):
                    words = [node.attr]
                else:
                    words = bound_names(node) if isinstance(node, FUNCTIONS) else []
                for word in words:
                    self.assertNotIn(word, BARRED, path)

    def test_syntax(self):
        wrong = (ast.Global, ast.AsyncFunctionDef, ast.Await, ast.Div, ast.MatMult)
        for path, tree in self.files.items():
            for node in ast.walk(tree):
                self.assertNotIsInstance(node, wrong, path)
                if isinstance(node, ast.Constant):
                    self.assertNotIsInstance(node.value, (float, complex))
                if isinstance(node, ast.Compare):
                    for sign, right in zip(node.ops, node.comparators):
                        if isinstance(sign, (ast.Is, ast.IsNot)):
                            self.assertIn(ast.unparse(right), ("None", "True", "False"), path)
                if isinstance(node, (ast.For, ast.comprehension)):
                    self.assertNotIsInstance(node.iter, (ast.Set, ast.SetComp), path)


if __name__ == "__main__":
    unittest.main()
