"""The interface of DOC.md, and the rules of LANGUAGE.md that a short test can see."""

import ast
import builtins
import importlib
import inspect
import pathlib
import re
import unittest
import warnings

PACKAGE = pathlib.Path(__file__).resolve().parent.parent / "flowpapers"

# For each file its functions and classes with their arguments, and the listed methods of each class.
INTERFACE = {
    "errors": {
        "FlowError": None, "BadText": ["column"], "BadLine": ["line", "column"], "BadNumber": ["what", "number"],
        "BadRow": ["row"], "BadName": ["name"], "Shared": ["plane"], "NoRest": ["place"], "NotRound": None,
        "NoName": ["name"], "TakenName": ["name"], "NotKept": ["promise", "witness"], "NothingToUndo": None,
        "NothingToRedo": None,
    },
    "ratios": {
        "is_ratio": ["value"], "told": ["value", "what"], "plus": ["one", "other"], "minus": ["one", "other"],
        "times": ["one", "other"], "share": ["one", "other"], "lower": ["one", "other"], "floor_of": ["value"],
        "ratio_text": ["value"],
    },
    "polys": {"Poly": ["numbers"], "divided": ["one", "other"], "common": ["one", "other"]},
    "planes": {"Plane": ["rows"], "plane_of": ["text"], "plane_text": ["plane"]},
    "stretches": {
        "Split": ["root", "rest", "cuts"], "Below": ["at", "number"], "never_below": ["poly"], "is_split": ["poly", "told"],
        "count_zeros": ["poly"], "zeros": ["poly", "bits"], "between": ["poly"],
    },
    "triangles": {
        "corners": ["plane", "triangle", "degree"], "halved": ["triangle", "side"], "triangles": ["room"],
        "Cover": ["trees"], "Under": ["place", "number"], "Near": [], "never_below_in": ["plane", "room", "bits"],
        "is_cover": ["plane", "room", "told"],
    },
    "fields": {
        "Field": ["p", "q"], "field_at": ["field", "place"], "slope_along": ["field", "plane"],
        "slopes_along": ["field", "plane", "many"], "stream_out": ["field"], "bend_at": ["field", "place"],
        "turned_back": ["field"], "changed": ["field", "matrix", "shift"], "series": ["field", "order"],
        "unchanging": ["field", "degree"], "factor_of": ["field", "plane"], "products": ["field", "planes"],
        "kept_lines": ["field", "slope"], "kept_uprights": ["field"],
    },
    "rooms": {
        "Room": ["corners", "holes"], "side_flow": ["field", "room", "side"], "kept": ["field", "room"], "Kept": ["papers"],
        "Out": ["side", "at", "number"], "is_kept": ["field", "room", "told"], "kept_until": ["field", "other", "room", "bits"],
        "Until": ["number", "kept", "out"], "turning": ["field", "places", "bits"], "Turn": ["number"], "AtRest": ["side", "low", "high"],
    },
    "rests": {
        "rests": ["field", "room", "bits"], "Rest": ["x", "y", "det", "trace", "on_side"], "kind_at": ["field", "place"],
        "focus": ["field", "place"], "winding": ["corners", "place"],
    },
    "linear": {
        "kind": ["matrix"], "Kind": ["trace", "determinant", "word"], "slope_of_form": ["matrix", "form"],
        "form_for": ["matrix", "falls"], "Falling": ["form"], "Staying": ["form"],
        "least_room": ["matrix", "shift", "directions", "points"], "LeastRoom": ["numbers", "shares"], "NoRoom": ["shares"],
        "is_least_room": ["matrix", "shift", "directions", "points", "told"], "common_form": ["one", "other"], "Common": ["form"],
        "Apart": ["way", "t"], "is_common": ["one", "other", "told"],
    },
    "norests": {
        "no_rest": ["field", "room", "bits"], "Restless": ["trees", "pairs"], "Rested": ["rest"], "is_restless": ["field", "room", "told"],
        "rising": ["field", "room", "trees", "degree"], "Rising": ["plane"], "NotRising": ["shares"],
        "is_rising": ["field", "room", "trees", "degree", "told"], "leaves_within": ["field", "room", "trees", "plane"],
    },
    "cycles": {
        "ring_cycle": ["field", "room", "bits"], "Leaves": ["ahead", "back"], "Cycle": ["is_back", "kept", "restless"],
        "is_ring_cycle": ["field", "room", "told"], "most_cycles": ["field", "room", "factor", "bits"],
        "AtMost": ["many", "sign", "cover"], "Changes": ["above", "below"], "Nothing": [], "is_most": ["field", "room", "factor", "told"],
        "factor_on": ["field", "room", "trees", "degree"], "Factor": ["plane"], "NoFactor": ["shares"],
        "is_factor": ["field", "room", "trees", "degree", "told"],
        "barrier": ["field", "room", "plane", "factor", "start", "goal", "e", "bits"], "Barrier": ["start", "goal", "inside"],
        "Fails": ["which", "point"], "Unsure": ["which"],
        "is_barrier": ["field", "room", "plane", "factor", "start", "goal", "e", "told"],
    },
    "tubes": {
        "range_on": ["plane", "box"], "stays": ["field", "box", "time", "room"], "first_room": ["field", "box", "time", "bits"],
        "after": ["field", "box", "time", "room", "order", "bits"], "tube": ["field", "box", "time", "count", "order", "bits"],
        "Tube": ["rooms", "boxes"], "Lost": ["index", "boxes"], "is_tube": ["field", "box", "time", "order", "told"],
        "misses": ["told", "goal"], "ends_in": ["told", "goal"],
    },
    "desk": {"Desk": ["text"]},
}

METHODS = {
    "Poly": {
        "__init__": ["numbers"], "__eq__": ["other"], "__add__": ["other"], "__radd__": ["other"],
        "__sub__": ["other"], "__rsub__": ["other"], "__mul__": ["other"], "__rmul__": ["other"], "__neg__": [],
        "degree": [], "at": ["point"], "slope": [],
    },
    "Plane": {
        "__init__": ["rows"], "__eq__": ["other"], "__add__": ["other"], "__radd__": ["other"],
        "__sub__": ["other"], "__rsub__": ["other"], "__mul__": ["other"], "__rmul__": ["other"], "__neg__": [],
        "degree": [], "at": ["point"], "slope_x": [], "slope_y": [], "along": ["start", "step"], "moved": ["matrix", "shift"],
    },
    "Field": {"__init__": ["p", "q"], "__eq__": ["other"]},
    "Room": {"__init__": ["corners", "holes"], "has": ["place"], "area": []},
    "Split": {"__init__": ["root", "rest", "cuts"]},
    "Below": {"__init__": ["at", "number"]},
    "Cover": {"__init__": ["trees"]},
    "Under": {"__init__": ["place", "number"]},
    "Desk": {
        "__init__": ["text"], "put": ["text"], "drop": ["name"], "rename": ["name", "new"], "keep": ["promise"], "release": ["promise"],
        "attempt": ["action"], "trial": ["action"], "undo": [], "redo": [], "lines": [], "names": [], "promises": [], "get": ["name"],
        "kept": ["promise"], "broken": [], "__enter__": [], "__exit__": ["kind", "value", "trace"],
    },
}

# What may be left out, with its value.
DEFAULTS = {("triangles", "corners"): {"degree": None}, ("rooms", "Room"): {"holes": ()}, ("desk", "Desk"): {"text": ""}}

# Classes for which == is described.
COMPARED = {"Poly", "Plane", "Field"}

LIBRARY = {
    "math": {"gcd", "lcm", "isqrt", "comb", "perm", "factorial"},
    "itertools": {"product", "combinations", "permutations", "chain", "accumulate", "pairwise", "islice", "zip_longest"},
    "heapq": {"heappush", "heappop", "heapify", "heapreplace", "heappushpop"},
    "collections": {"defaultdict"},
}

BUILTINS = set("""
    len range enumerate zip min max sum abs sorted reversed int str bool list tuple dict set isinstance ord repr any all
    divmod iter next Exception ValueError TypeError KeyError IndexError LookupError ZeroDivisionError ArithmeticError
    OverflowError RuntimeError NotImplementedError AttributeError StopIteration NotImplemented
""".split())

NODES_NOT_ALLOWED = (
    ast.Global, ast.AsyncFunctionDef, ast.AsyncFor, ast.AsyncWith, ast.Await, ast.Div, ast.MatMult, ast.Import,
)


def files():
    return sorted(PACKAGE.glob("*.py"))


def trees():
    return [(path.name, ast.parse(path.read_text())) for path in files()]


class TestInterface(unittest.TestCase):

    def test_each_name_is_defined_in_its_file(self):
        for file, names in INTERFACE.items():
            module = importlib.import_module("flowpapers." + file)
            for name, arguments in names.items():
                found = getattr(module, name)
                self.assertEqual((found.__module__, found.__name__), (module.__name__, name))
                if arguments is not None:
                    parameters = inspect.signature(found).parameters
                    self.assertEqual(list(parameters), arguments, name)
                    defaults = {key: parameter.default for key, parameter in parameters.items()
                                if parameter.default is not inspect.Parameter.empty}
                    self.assertEqual(defaults, DEFAULTS.get((file, name), {}), name)

    def test_only_some_classes_compare(self):
        for file, names in INTERFACE.items():
            module = importlib.import_module("flowpapers." + file)
            for name in names:
                found = getattr(module, name)
                if inspect.isclass(found):
                    self.assertEqual(found.__eq__ is not object.__eq__, name in COMPARED, name)

    def test_each_method_is_defined_in_its_class(self):
        for file, names in INTERFACE.items():
            module = importlib.import_module("flowpapers." + file)
            for name in names:
                for method, arguments in METHODS.get(name, {}).items():
                    found = vars(getattr(module, name))[method]
                    self.assertEqual(list(inspect.signature(found).parameters), ["self"] + arguments, method)


class TestRules(unittest.TestCase):

    def test_the_folder_has_plain_files_alone(self):
        for path in PACKAGE.iterdir():
            if path.name != "__pycache__":
                self.assertTrue(path.is_file() and re.fullmatch(r"[a-z0-9_]+\.py", path.name), path.name)
        self.assertTrue((PACKAGE / "__init__.py").is_file())

    def test_characters_and_sizes(self):
        for path in files():
            data = path.read_bytes()
            self.assertTrue(all(byte == 10 or 32 <= byte <= 126 for byte in data), path.name)
            lines = data.decode().split("\n")
            self.assertLessEqual(len(lines), 400, path.name)
            self.assertLessEqual(max(len(line) for line in lines), 120, path.name)
        for name, tree in trees():
            for node in ast.walk(tree):
                if isinstance(node, ast.FunctionDef):
                    self.assertLessEqual(node.end_lineno - node.lineno + 1, 40, (name, node.name))

    def test_no_warnings(self):
        with warnings.catch_warnings():
            warnings.simplefilter("error")
            for path in files():
                compile(path.read_text(), path.name, "exec")

    def test_imports(self):
        for name, tree in trees():
            for node in ast.walk(tree):
                if isinstance(node, ast.ImportFrom):
                    self.assertEqual(node.level, 0, name)
                    words = {alias.name for alias in node.names}
                    self.assertFalse([alias for alias in node.names if alias.asname], name)
                    if node.module in LIBRARY:
                        self.assertLessEqual(words, LIBRARY[node.module], name)
                    else:
                        self.assert_own(node.module, words)

    def assert_own(self, module, words):
        folder, file = module.split(".")
        self.assertEqual(folder, PACKAGE.name)
        tree = ast.parse((PACKAGE / (file + ".py")).read_text())
        defined = {node.name for node in tree.body if isinstance(node, (ast.FunctionDef, ast.ClassDef))}
        defined |= {target.id for node in tree.body if isinstance(node, ast.Assign) for target in node.targets}
        self.assertLessEqual(words, defined, module)

    def test_builtins_and_statements(self):
        for name, tree in trees():
            for node in ast.walk(tree):
                self.assertNotIsInstance(node, NODES_NOT_ALLOWED, name)
                if isinstance(node, ast.Constant):
                    self.assertNotIsInstance(node.value, (float, complex), name)
                if isinstance(node, ast.Name) and isinstance(node.ctx, ast.Load) and hasattr(builtins, node.id):
                    self.assertIn(node.id, BUILTINS, name)

    def test_no_name_of_a_class_or_an_import_gets_another_meaning(self):
        for name, tree in trees():
            taken = {alias.name for node in tree.body if isinstance(node, ast.ImportFrom) for alias in node.names}
            taken |= {node.name for node in tree.body if isinstance(node, ast.ClassDef)}
            for node in ast.walk(tree):
                if isinstance(node, ast.Name) and isinstance(node.ctx, ast.Store):
                    self.assertNotIn(node.id, taken, name)
                if isinstance(node, ast.arg):
                    self.assertNotIn(node.arg, taken, name)
                if isinstance(node, ast.FunctionDef):
                    self.assertNotIn(node.name, taken, name)

    def test_no_two_functions_have_one_name(self):
        found = [node.name for _, tree in trees() for node in tree.body if isinstance(node, ast.FunctionDef)]
        self.assertEqual(sorted(found), sorted(set(found)))

    def test_what_is_imported_is_used(self):
        for name, tree in trees():
            used = {node.id for node in ast.walk(tree) if isinstance(node, ast.Name)}
            for node in tree.body:
                if isinstance(node, ast.ImportFrom):
                    for alias in node.names:
                        self.assertIn(alias.name, used, name)

    def test_no_two_files_import_one_another(self):
        after = {}
        for name, tree in trees():
            after[name[:-3]] = {node.module.split(".")[1] for node in tree.body
                                if isinstance(node, ast.ImportFrom) and node.module.startswith("flowpapers.")}
        while after:
            last = [name for name, needed in after.items() if not needed & set(after)]
            self.assertTrue(last, after)
            after = {name: needed for name, needed in after.items() if name not in last}

    def test_exponents_and_signs_that_change(self):
        for name, tree in trees():
            for node in ast.walk(tree):
                self.assertNotIsInstance(node, (ast.AugAssign, ast.GeneratorExp, ast.Lambda), name)
                if isinstance(node, ast.BinOp) and isinstance(node.op, ast.Pow):
                    self.assertIsInstance(node.right, ast.Constant, name)
                if isinstance(node, ast.Call):
                    for argument in node.args:
                        if isinstance(argument, ast.Starred):
                            self.fail((name, node.lineno))
                if isinstance(node, ast.Constant) and isinstance(node.value, str):
                    self.assertNotIn("%", node.value, name)

    def test_no_builtin_gets_another_meaning(self):
        for name, tree in trees():
            for node in ast.walk(tree):
                if isinstance(node, ast.FunctionDef) and not node.name.startswith("__"):
                    self.assertFalse(hasattr(builtins, node.name), (name, node.name))
                if isinstance(node, ast.Name) and isinstance(node.ctx, ast.Store):
                    self.assertFalse(hasattr(builtins, node.id), (name, node.id))
                if isinstance(node, ast.arg):
                    self.assertFalse(hasattr(builtins, node.arg), (name, node.arg))
                if isinstance(node, ast.ClassDef):
                    self.assertFalse(hasattr(builtins, node.name), (name, node.name))


class TestCalls(unittest.TestCase):
    """Rules L6, L17, L19, L20, L23, L25, L26, as far as a short test can see."""

    METHODS_OF_VALUES = set("""
        append clear copy count endswith extend find get index insert isalnum isalpha isdigit islower isspace isupper items join keys
        ljust lower lstrip partition pop remove replace reverse rfind rjust rpartition rsplit rstrip setdefault split splitlines
        startswith strip update upper values zfill bit_length add discard
    """.split())

    ATTRIBUTES = {"count", "index", "title", "find", "get", "join", "lower", "upper", "split", "strip", "copy", "add"}

    NOT_USED = set("""
        register mro elements open input law version_info with_traceback add_note type typing enum Enum Flag Generic Protocol ABC
        namedtuple NamedTuple TypedDict abstractmethod exec eval compile globals locals vars dir id help exit quit delattr super
    """.split())

    AT_ONCE = {"list", "tuple", "dict", "sorted", "sum", "any", "all", "enumerate", "zip", "min", "max", "reversed"}

    def test_methods_and_attributes(self):
        own = {node.name for _, tree in trees() for part in ast.walk(tree) if isinstance(part, ast.ClassDef)
               for node in part.body if isinstance(node, ast.FunctionDef)}
        taken = {name for kind in (str, int, list, dict, set, bytes, tuple) for name in dir(kind)} - self.ATTRIBUTES
        for name, tree in trees():
            for node in ast.walk(tree):
                if isinstance(node, ast.Call) and isinstance(node.func, ast.Attribute):
                    self.assertIn(node.func.attr, self.METHODS_OF_VALUES | own, (name, node.lineno))
                    self.assertFalse(node.keywords, (name, node.lineno))
                if isinstance(node, ast.Attribute) and isinstance(node.ctx, ast.Store):
                    self.assertNotIn(node.attr, taken, (name, node.lineno))

    def test_names_that_are_not_used(self):
        for name, tree in trees():
            for node in ast.walk(tree):
                words = [getattr(node, key, None) for key in ("id", "arg", "attr", "name")]
                self.assertFalse(self.NOT_USED & {word for word in words if isinstance(word, str)}, name)

    def test_is(self):
        for name, tree in trees():
            for node in ast.walk(tree):
                if isinstance(node, ast.Compare):
                    for sign, value in zip(node.ops, node.comparators):
                        if isinstance(sign, (ast.Is, ast.IsNot)):
                            self.assertTrue(isinstance(value, ast.Constant) and value.value in (None, True, False), (name, node.lineno))

    def test_iterated_at_once(self):
        for name, tree in trees():
            above = {child: node for node in ast.walk(tree) for child in ast.iter_child_nodes(node)}
            for node in ast.walk(tree):
                if isinstance(node, ast.Call) and isinstance(node.func, ast.Name) and node.func.id in ("zip", "enumerate", "reversed", "range"):
                    around = above[node]
                    is_at_once = isinstance(around, (ast.For, ast.comprehension)) or (
                        isinstance(around, ast.Call) and isinstance(around.func, ast.Name) and around.func.id in self.AT_ONCE)
                    # A range alone may be kept under a name.
                    is_kept = node.func.id == "range" and isinstance(around, ast.Assign) and isinstance(around.targets[0], ast.Name)
                    self.assertTrue(is_at_once or is_kept, (name, node.lineno))

    def test_tries(self):
        own = set(INTERFACE["errors"])
        for name, tree in trees():
            for node in ast.walk(tree):
                if isinstance(node, ast.Try):
                    for handler in node.handlers:
                        self.assertIn(handler.type.id, own, (name, node.lineno))
                        self.assertIsInstance(handler.body[-1], ast.Raise)
                    for row in node.finalbody:
                        self.assert_simple(row, (name, row.lineno))
                if isinstance(node, ast.FunctionDef) and node.name == "__exit__":
                    self.assertEqual([type(row) for row in node.body], [ast.Assign])
                    self.assertIsInstance(node.body[0].value, ast.Attribute)

    def assert_simple(self, row, where):
        if isinstance(row, ast.If):
            self.assertTrue(isinstance(row.test, ast.Compare) and isinstance(row.test.ops[0], (ast.Is, ast.IsNot)), where)
            for inner in row.body + row.orelse:
                self.assert_simple(inner, where)
        else:
            self.assertIsInstance(row, ast.Assign, where)
            self.assertIsInstance(row.value, (ast.Name, ast.Attribute), where)


class TestOperators(unittest.TestCase):
    """What an operator runs, and all that it calls in turn, changes nothing: stricter than L5 and L28 ask for."""

    SIGNS = ("eq", "ne", "lt", "le", "gt", "ge", "add", "radd", "sub", "rsub", "mul", "rmul", "neg", "len", "str", "repr")

    CHANGING = {"append", "clear", "extend", "insert", "pop", "remove", "reverse", "setdefault", "update", "sort", "add",
                "discard"}

    def setUp(self):
        self.functions, self.methods = {}, {}
        for _, tree in trees():
            for node in tree.body:
                if isinstance(node, ast.FunctionDef):
                    self.functions.setdefault(node.name, []).append(node)
                if isinstance(node, ast.ClassDef):
                    for method in node.body:
                        if isinstance(method, ast.FunctionDef):
                            self.methods.setdefault(method.name, []).append(method)
                            if method.name == "__init__":
                                self.functions.setdefault(node.name, []).append(method)

    def called(self, function):
        found = []
        for node in ast.walk(function):
            if isinstance(node, ast.Call) and isinstance(node.func, ast.Name):
                found += self.functions.get(node.func.id, [])
            if isinstance(node, ast.Call) and isinstance(node.func, ast.Attribute):
                found += self.methods.get(node.func.attr, [])
        return found

    def test_they_change_nothing(self):
        todo = [method for sign in self.SIGNS for method in self.methods.get("__" + sign + "__", [])]
        seen = []
        while todo:
            function = todo.pop()
            if function not in seen:
                seen.append(function)
                todo += self.called(function)
                self.assert_changes_nothing(function)
        self.assertGreater(len(seen), 20)

    def assert_changes_nothing(self, function):
        where = (function.name, function.lineno)
        held = {node.arg for node in ast.walk(function) if isinstance(node, ast.arg)}
        held |= {node.id for node in ast.walk(function) if isinstance(node, ast.Name) and isinstance(node.ctx, ast.Store)}
        for node in ast.walk(function):
            self.assertNotIsInstance(node, (ast.AugAssign, ast.Delete, ast.Yield, ast.Nonlocal), where)
            if isinstance(node, ast.Subscript):
                self.assertIsInstance(node.ctx, ast.Load, where)
            if isinstance(node, ast.Attribute) and not isinstance(node.ctx, ast.Load):
                self.assertTrue(function.name == "__init__" and node.value.id == "self", where)
            if isinstance(node, ast.Call):
                name = node.func.attr if isinstance(node.func, ast.Attribute) else node.func.id
                self.assertNotIn(name, self.CHANGING if isinstance(node.func, ast.Attribute) else held, where)


if __name__ == "__main__":
    unittest.main()
