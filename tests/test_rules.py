"""Rules of the code that can be checked from the files alone, and where the interface's names are defined."""

import ast
import builtins
import pathlib
import unittest

PACKAGE = pathlib.Path(__file__).resolve().parent.parent / "layerwharf"
FILES = sorted(PACKAGE.glob("*.py"))
# For each file of the interface that is written: its functions and classes, and its other names.
INTERFACE = {
    "errors": (["Refused", "Malformed", "Misused"], []),
    "addresses": (["address_of", "is_address"], ["KINDS"]),
    "images": (["image_text", "bundle_text", "read_image", "read_bundle", "references"], []),
    "store": (["Store"], ["BELOW"]),
    "claims": (["Claims"], []),
    "uploads": (["Uploads"], []),
    "collector": (["Collector"], []),
    "registry": (["Registry"], []),
    "letters": (["Wire"], ["MOST_LETTERS"]),
    "pusher": (["Pusher"], ["PART"]),
    "puller": (["Puller"], ["PIECE"]),
    "world": (["World"], []),
    "calm": (["calm_round", "calm_bound", "run_calm", "full_collection"], []),
    "judge": (["names_are_whole", "shown_moment", "reachable"], []),
}
# For each class of the interface that has methods: each method, and the names of what it takes beside its object.
METHODS = {
    "Store": {
        "keep": ["kind", "text"], "blob": ["address"], "remove_blob": ["address"], "addresses": [],
        "below": ["address"], "is_whole": ["address"], "closure": ["address"],
    },
    "Claims": {
        "begin": [], "is_open": ["claim"], "pin": ["claim", "address"], "end": ["claim"], "numbers": [], "pinned": [],
    },
    "Uploads": {"begin": [], "add_part": ["upload", "at", "part"], "finish": ["upload"], "forget": []},
    "Collector": {"step": ["roots"], "shade": ["address"], "stop": []},
    "Registry": {
        "answer": ["request"], "drop_name": ["name"], "lapse": ["claim"], "fall": [], "roots": [], "collect": [],
    },
    "Wire": {
        "send": ["letter"], "deliver": ["index"], "lose": ["index"], "double": ["index"],
        "spoil": ["index", "place", "character"],
    },
    "Pusher": {
        "__init__": ["layers", "name", "platform", "number"], "request": [], "take": ["reply"], "image": [],
        "bundle": [], "address": [],
    },
    "Puller": {
        "__init__": ["name", "platform", "number"], "request": [], "take": ["reply"], "kept": [], "result": [],
    },
    "World": {"__init__": [], "add_client": ["client"], "do": ["event"]},
}
# For each function of the interface that stands in no class: the names of what it takes.
FUNCTIONS = {
    "address_of": ["kind", "text"], "is_address": ["text"], "image_text": ["layers"], "bundle_text": ["entries"],
    "read_image": ["text"], "read_bundle": ["text"], "references": ["kind", "text"], "calm_round": ["world", "steps"],
    "calm_bound": ["world"], "run_calm": ["world", "steps"], "full_collection": ["world"],
    "names_are_whole": ["world"], "shown_moment": ["world", "index"], "reachable": ["world"],
}
# What rule L8 allows of Python's own names, and L17 forbids of all names.
BUILTINS = set("""
    len range enumerate zip min max sum abs sorted reversed int str bool bytes list tuple dict set frozenset isinstance
    ord repr any all divmod pow getattr hasattr setattr iter next map super Exception ValueError TypeError KeyError
    IndexError LookupError ZeroDivisionError ArithmeticError OverflowError RuntimeError NotImplementedError
    AttributeError StopIteration NotImplemented property staticmethod classmethod
""".split())
BARRED = set("register mro elements open input law version_info with_traceback add_note".split())
# The methods of builtin values that rule L25 allows.
BUILTIN_METHODS = set("""
    append clear copy count endswith extend find get index insert isalnum isalpha isdigit islower isspace isupper items
    join keys ljust lower lstrip partition pop remove replace reverse rfind rjust rpartition rsplit rstrip setdefault
    split splitlines startswith strip update upper values zfill bit_length add discard
""".split())
STATEMENTS = (
    ast.FunctionDef, ast.ClassDef, ast.Return, ast.Delete, ast.Assign, ast.AugAssign, ast.AnnAssign, ast.For, ast.While,
    ast.If, ast.With, ast.Match, ast.Raise, ast.Try, ast.Assert, ast.Import, ast.ImportFrom, ast.Nonlocal, ast.Expr,
    ast.Pass, ast.Break, ast.Continue,
)
LIBRARY = {"heapq", "math", "itertools", "collections"}


def tree_of(path):
    return ast.parse(path.read_text(encoding="ascii"))


def arguments_of(method):
    return [taken.arg for taken in method.args.args[1:] + method.args.kwonlyargs]


def nodes(*kinds):
    """Each node of these kinds in the package, with the name of its file and its line."""
    for path in FILES:
        for node in ast.walk(tree_of(path)):
            if isinstance(node, kinds):
                yield node, f"{path.name} {node.lineno}"


def bound_names():
    """Each name that the package gives to something, with its place."""
    for node, place in nodes(ast.FunctionDef, ast.ClassDef):
        yield node.name, place
    for node, place in nodes(ast.arg):
        yield node.arg, place
    for node, place in nodes(ast.Name):
        if not isinstance(node.ctx, ast.Load):
            yield node.id, place
    for node, place in nodes(ast.MatchAs, ast.MatchStar):
        if node.name:
            yield node.name, place


class FilesTest(unittest.TestCase):
    def test_the_package_holds_only_files_of_python(self):
        for path in PACKAGE.iterdir():
            if path.name != "__pycache__":
                self.assertRegex(path.name, r"\A[a-z_][a-z0-9_]*\.py\Z")
        self.assertIn(PACKAGE / "__init__.py", FILES)

    def test_the_characters_and_sizes_of_the_files(self):
        for path in FILES:
            text = path.read_text(encoding="ascii")
            self.assertEqual([sign for sign in text if sign != "\n" and not " " <= sign <= "~"], [])
            self.assertLessEqual(len(text.split("\n")), 399, path.name)
            self.assertLessEqual(max(len(line) for line in text.split("\n")), 120, path.name)

    def test_the_functions_have_at_most_40_lines(self):
        for path in FILES:
            for node in ast.walk(tree_of(path)):
                if isinstance(node, ast.FunctionDef):
                    self.assertLessEqual(node.end_lineno - node.lineno + 1, 40, f"{path.name} {node.name}")

    def test_the_imports_are_from_files_of_the_package(self):
        for path in FILES:
            for node in ast.walk(tree_of(path)):
                self.assertNotIsInstance(node, ast.Import, path.name)
                if isinstance(node, ast.ImportFrom) and node.module not in LIBRARY:
                    self.assertRegex(node.module, r"\Alayerwharf\.[a-z_]+\Z", path.name)
                    self.assertEqual(node.level, 0)
                    self.assertNotIn("*", [name.name for name in node.names])


class LanguageTest(unittest.TestCase):
    def test_the_statements_and_values(self):
        for node, place in nodes(ast.stmt):
            self.assertIsInstance(node, STATEMENTS, place)
        for node, place in nodes(ast.BinOp, ast.AugAssign):
            self.assertNotIsInstance(node.op, (ast.Div, ast.MatMult), place)
        for node, place in nodes(ast.Constant):
            self.assertNotIsInstance(node.value, (float, complex, bytes), place)
            if isinstance(node.value, str):
                self.assertNotIn("%", node.value, place)

    def test_the_body_of_a_module(self):
        for path in FILES:
            for at, node in enumerate(tree_of(path).body):
                place = f"{path.name} {node.lineno}"
                allowed = (ast.Expr, ast.ImportFrom, ast.FunctionDef, ast.ClassDef, ast.Assign)
                self.assertIsInstance(node, allowed, place)
                if isinstance(node, ast.Expr):
                    self.assertEqual((at, type(node.value.value)), (0, str), place)
                if isinstance(node, ast.Assign):
                    ast.literal_eval(ast.unparse(node.value).replace("2 ** 61 - 1", "0"))

    def test_no_decorators_and_few_methods_of_two_underscores(self):
        for node, place in nodes(ast.FunctionDef, ast.ClassDef):
            self.assertEqual(node.decorator_list, [], place)
            if node.name.startswith("__"):
                self.assertEqual(node.name, "__init__", place)

    def test_the_names_of_python_that_are_used(self):
        own = {name for name, _ in bound_names()}
        for node, place in nodes(ast.ImportFrom):
            own |= {name.name for name in node.names}
        for node, place in nodes(ast.Name):
            if node.id not in own:
                self.assertIn(node.id, BUILTINS, place)

    def test_the_names_of_the_package(self):
        for name, place in bound_names():
            self.assertNotIn(name, dir(builtins), place)
            self.assertNotIn(name, BARRED, place)
            self.assertRegex(name, r"\A(_|_?[A-Za-z][A-Za-z0-9_]*|__init__)\Z", place)
            self.assertNotRegex(name, r"\A_(wall|pe_|dcw_|enum_|cm_|twin_re_|lay_|law_|stub_|sre|WallAttr|cold)", place)
        for node, place in nodes(ast.Attribute):
            self.assertNotIn(node.attr, BARRED, place)
            self.assertNotRegex(node.attr, r"\A__(?!init__)", place)

    def test_the_methods_that_are_called(self):
        own = {node.name for node, _ in nodes(ast.FunctionDef)}
        for node, place in nodes(ast.Call):
            if isinstance(node.func, ast.Attribute):
                self.assertIn(node.func.attr, own | BUILTIN_METHODS, place)

    def test_no_name_is_a_method_and_an_attribute_of_one_class(self):
        for node, place in nodes(ast.ClassDef):
            methods = {part.name for part in node.body if isinstance(part, ast.FunctionDef)}
            stored = {part.attr for part in ast.walk(node)
                      if isinstance(part, ast.Attribute) and isinstance(part.ctx, ast.Store)}
            self.assertEqual(methods & stored, set(), place)

    def test_is_stands_beside_none_true_and_false_alone(self):
        for node, place in nodes(ast.Compare):
            if any(isinstance(sign, (ast.Is, ast.IsNot)) for sign in node.ops):
                self.assertIsInstance(node.comparators[0], ast.Constant, place)

    def test_own_errors_alone_are_caught(self):
        caught = {name for definitions, _ in [INTERFACE["errors"]] for name in definitions} | {"KeyError"}
        for node, place in nodes(ast.ExceptHandler):
            self.assertIn(node.type.id, caught, place)

    def test_sets_stand_in_sorted_alone(self):
        found = [node for node, _ in nodes(ast.Set, ast.SetComp)]
        found += [node for node, _ in nodes(ast.Call) if isinstance(node.func, ast.Name) and node.func.id == "set"]
        sorts = [node for node, _ in nodes(ast.Call) if isinstance(node.func, ast.Name) and node.func.id == "sorted"]
        allowed = [ast.dump(node.args[0]) for node in sorts]
        for node in found:
            self.assertIn(ast.dump(node), allowed)


class InterfaceTest(unittest.TestCase):
    def test_each_name_is_defined_in_its_own_file(self):
        for module, (definitions, values) in INTERFACE.items():
            body = tree_of(PACKAGE / f"{module}.py").body
            defined = [node.name for node in body if isinstance(node, (ast.FunctionDef, ast.ClassDef))]
            assigned = [node.targets[0].id for node in body if isinstance(node, ast.Assign)]
            for name in definitions:
                self.assertEqual(defined.count(name), 1, name)
            for name in values:
                self.assertEqual(assigned.count(name), 1, name)

    def test_each_function_has_its_arguments(self):
        found = {}
        for path in FILES:
            for node in tree_of(path).body:
                if isinstance(node, ast.FunctionDef):
                    found[node.name] = [taken.arg for taken in node.args.args]
        for name, arguments in FUNCTIONS.items():
            self.assertEqual(found.get(name), arguments, name)

    def test_each_method_is_defined_in_its_class_with_its_arguments(self):
        found = {}
        for path in FILES:
            for node in tree_of(path).body:
                if isinstance(node, ast.ClassDef):
                    methods = [part for part in node.body if isinstance(part, ast.FunctionDef)]
                    found[node.name] = {part.name: arguments_of(part) for part in methods}
        for name, methods in METHODS.items():
            for method, arguments in methods.items():
                self.assertEqual(found[name].get(method), arguments, f"{name}.{method}")


if __name__ == "__main__":
    unittest.main()
