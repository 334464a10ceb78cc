"""The form of the code: those rules of the language that can be checked file by file."""

import ast
import functools
import pathlib
import re
import unittest

FOLDER = pathlib.Path(__file__).resolve().parent.parent / "outgrow"

# What the interface lists, by the file that must define it.
INTERFACE = {
    "errors": ["Refused", "Misread", "Unfit", "BadText", "BadPage", "BadName", "BadNumber", "NoName", "Twice",
               "NoPlan", "NoLabel", "Taken", "Ring", "NotPlain", "Tangled", "Breaks", "InUse", "Uneven", "Misplaced",
               "Full", "Heavy", "Far", "Weary", "NothingLeft", "Stopped"],
    "bounds": ["is_name"],
    "texts": ["read_plan", "plan_text"],
    "look": ["look_plan", "calls_of"],
    "walks": ["walked"],
    "tables": ["worth", "compared", "shown", "is_shown", "growth", "greater_growth", "sums_text", "growth_text"],
    "shelf": ["Shelf"],
    "pages": ["page", "read_page"],
    "desk": ["Desk"],
}

# The methods that the interface lists, by the class that must define them itself.
METHODS = {
    "Shelf": """put alter drop watch unwatch together undo redo past twin names labels text pair leans sums steps walk
        growth order against paper news __eq__ __len__ __repr__""".split(),
    "Desk": ["say"],
}

BARRED_WORDS = (
    r"\b(type|typing|typing_extensions|enum|Enum|IntEnum|StrEnum|Flag|IntFlag|Generic|Protocol|ABC|ABCMeta"
    r"|namedtuple|NamedTuple|TypedDict|TYPE_CHECKING|abstractmethod)\b|dataclass|overload|contextmanager"
)

BUILTINS = """len range enumerate zip min max sum abs sorted reversed int str bool bytes list tuple dict set frozenset
isinstance ord repr any all divmod iter next ValueError KeyError IndexError LookupError ZeroDivisionError TypeError
NotImplementedError NotImplemented True False None""".split()

DUNDER_METHODS = "__init__ __eq__ __repr__ __str__ __len__ __enter__ __exit__ __call__ __iter__".split()


def files():
    return sorted(FOLDER.glob("*.py"))


@functools.cache
def trees():
    return {path.stem: ast.parse(path.read_text()) for path in files()}


def bound_names(tree):
    """All names that a file binds: functions, classes, parameters, variables."""
    names = set()
    for node in ast.walk(tree):
        if isinstance(node, (ast.FunctionDef, ast.ClassDef)):
            names.add(node.name)
        elif isinstance(node, ast.arg):
            names.add(node.arg)
        elif isinstance(node, ast.Name) and not isinstance(node.ctx, ast.Load):
            names.add(node.id)
        elif isinstance(node, ast.Attribute) and not isinstance(node.ctx, ast.Load):
            names.add(node.attr)
    return names


def top_names(tree):
    """The names that stand at module level, imports included, in their order."""
    names = []
    for node in tree.body:
        if isinstance(node, (ast.FunctionDef, ast.ClassDef)):
            names.append(node.name)
        elif isinstance(node, ast.Assign):
            names.append(node.targets[0].id)
        elif isinstance(node, ast.ImportFrom):
            names.extend(alias.asname or alias.name for alias in node.names)
    return names


class TestForm(unittest.TestCase):
    def test_files(self):
        found = [path for path in FOLDER.iterdir() if path.name != "__pycache__"]
        self.assertIn("__init__.py", [path.name for path in found])
        for path in found:
            self.assertRegex(path.name, r"^[a-z0-9_]+\.py$")

    def test_characters_words_and_sizes(self):
        for path in files():
            text = path.read_text()
            self.assertIsNone(re.search(r"[^ -~\n]", text), path.name)
            self.assertIsNone(re.search(BARRED_WORDS, text), path.name)
            self.assertLessEqual(len(text.splitlines()), 399, path.name)
            self.assertLessEqual(max(map(len, text.splitlines())), 120, path.name)

    def test_functions_have_at_most_40_lines(self):
        for stem, tree in trees().items():
            for node in ast.walk(tree):
                if isinstance(node, ast.FunctionDef):
                    self.assertLessEqual(node.end_lineno - node.lineno + 1, 40, (stem, node.name))

    def test_module_level(self):
        kinds = (ast.FunctionDef, ast.ClassDef, ast.ImportFrom, ast.Assign)
        for stem, tree in trees().items():
            self.assertIsInstance(tree.body[0], ast.Expr, stem)
            for node in tree.body[1:]:
                self.assertIsInstance(node, kinds, (stem, node.lineno))
            names = top_names(tree)
            self.assertEqual(len(names), len(set(names)), stem)

    def test_imports(self):
        defined = {stem: [n for n in top_names(tree)] for stem, tree in trees().items()}
        leans = {}
        for stem, tree in trees().items():
            leans[stem] = []
            for node in ast.walk(tree):
                self.assertNotIsInstance(node, ast.Import, stem)
                if isinstance(node, ast.ImportFrom):
                    self.assertIn(node, tree.body, stem)
                    self.assertEqual((node.level, node.module.split(".")[0]), (0, "outgrow"), stem)
                    source = node.module.split(".")[1]
                    leans[stem].append(source)
                    for alias in node.names:
                        self.assertIn(alias.name, defined[source], stem)
                        self.assertNotIn(alias.name, self.imported(source), stem)
        while leans:
            free = [stem for stem in leans if not any(other in leans for other in leans[stem])]
            self.assertTrue(free, f"files import from each other: {sorted(leans)}")
            leans = {stem: leans[stem] for stem in leans if stem not in free}

    def imported(self, stem):
        nodes = [node for node in trees()[stem].body if isinstance(node, ast.ImportFrom)]
        return [alias.name for node in nodes for alias in node.names]

    def test_names(self):
        import builtins
        for stem, tree in trees().items():
            for name in bound_names(tree):
                if name not in DUNDER_METHODS:
                    self.assertRegex(name, r"^[A-Za-z][A-Za-z0-9_]*$", stem)
                    self.assertFalse(hasattr(builtins, name), (stem, name))

    def test_barred_names(self):
        barred = {"register", "mro", "elements", "open", "input", "law", "version_info", "add_note", "format"}
        for stem, tree in trees().items():
            used = {node.attr for node in ast.walk(tree) if isinstance(node, ast.Attribute)}
            self.assertEqual(barred & (bound_names(tree) | used), set(), stem)

    def test_no_variable_is_called_like_a_class_or_an_import(self):
        for stem, tree in trees().items():
            classes = {node.name for node in tree.body if isinstance(node, ast.ClassDef)}
            variables = {node.arg for node in ast.walk(tree) if isinstance(node, ast.arg)}
            variables |= {node.id for node in ast.walk(tree)
                          if isinstance(node, ast.Name) and not isinstance(node.ctx, ast.Load)}
            self.assertEqual(variables & (classes | set(self.imported(stem))), set(), stem)

    def test_builtins(self):
        import builtins
        for stem, tree in trees().items():
            known = bound_names(tree) | set(top_names(tree)) | set(BUILTINS)
            for node in ast.walk(tree):
                if isinstance(node, ast.Name) and hasattr(builtins, node.id):
                    self.assertIn(node.id, known, (stem, node.lineno))

    def test_expressions(self):
        barred = (ast.Div, ast.Global, ast.AsyncFunctionDef, ast.Await, ast.MatMult)
        for stem, tree in trees().items():
            for node in ast.walk(tree):
                self.assertNotIsInstance(node, barred, stem)
                if isinstance(node, ast.Constant):
                    self.assertNotIsInstance(node.value, (float, complex), stem)
                    self.assertFalse(isinstance(node.value, str) and "%" in node.value, (stem, node.lineno))
                if isinstance(node, ast.BinOp) and isinstance(node.op, ast.Pow):
                    self.assertIsInstance(node.right, ast.Constant, (stem, node.lineno))
                if isinstance(node, ast.Compare):
                    for sign, right in zip(node.ops, node.comparators):
                        if isinstance(sign, (ast.Is, ast.IsNot)):
                            self.assertIn(getattr(right, "value", 0), (None, True, False), (stem, node.lineno))

    def test_interface_stands_in_its_files(self):
        for stem, wanted in INTERFACE.items():
            nodes = [node for node in trees()[stem].body if isinstance(node, (ast.FunctionDef, ast.ClassDef))]
            for name in wanted:
                self.assertIn(name, [node.name for node in nodes], stem)

    def test_methods_stand_in_their_classes(self):
        classes = {node.name: node for tree in trees().values() for node in tree.body if isinstance(node, ast.ClassDef)}
        for name, wanted in METHODS.items():
            methods = [node.name for node in classes[name].body if isinstance(node, ast.FunctionDef)]
            self.assertLessEqual(set(wanted), set(methods))
            self.assertEqual(len(methods), len(set(methods)))

    def test_no_import_is_idle(self):
        for stem, tree in trees().items():
            used = {node.id for node in ast.walk(tree) if isinstance(node, ast.Name)}
            self.assertEqual(set(self.imported(stem)) - used, set(), stem)

    def test_only_own_errors_are_caught(self):
        own = set(INTERFACE["errors"])
        for stem, tree in trees().items():
            for node in ast.walk(tree):
                if isinstance(node, ast.ExceptHandler):
                    kinds = node.type.elts if isinstance(node.type, ast.Tuple) else [node.type]
                    self.assertLessEqual({kind.id for kind in kinds}, own, stem)

    def test_no_generators_and_stars_over_names_only(self):
        for stem, tree in trees().items():
            for node in ast.walk(tree):
                self.assertNotIsInstance(node, (ast.GeneratorExp, ast.Yield, ast.YieldFrom), stem)
                if isinstance(node, ast.Starred):
                    self.assertIsInstance(node.value, (ast.Name, ast.Attribute), (stem, node.lineno))

    def test_no_name_is_a_method_and_an_attribute(self):
        methods, attributes = set(), set()
        for tree in trees().values():
            for node in ast.walk(tree):
                if isinstance(node, ast.ClassDef):
                    methods.update(part.name for part in node.body if isinstance(part, ast.FunctionDef))
                elif isinstance(node, ast.Attribute) and isinstance(node.ctx, ast.Store):
                    attributes.add(node.attr)
        self.assertEqual(methods & attributes, set())
