"""The interface stands where the document lists it, and the files keep the plain rules of form."""

import ast
import builtins
import os
import re
import unittest

FOLDER = os.path.join(os.path.dirname(os.path.dirname(os.path.abspath(__file__))), "ringwindows")

DEFINED = {
    "rules.py": (
        "is_rules", "rules_error", "window_places", "window_sum", "broken_rules", "fits", "turned_rules",
        "mirrored_rules",
    ),
    "reasons.py": ("bound_of", "totals_of", "find_certificate", "certificate_holds"),
    "fillings.py": (
        "window_range", "smallest_filling", "greatest_filling", "next_filling", "walk_fillings", "count_fillings",
    ),
    "steps.py": ("least_steps", "find_way", "way_holds"),
    "texts.py": ("ring_text", "filling_text", "parse_ring", "parse_filling"),
    "parts.py": ("parts_of", "joined", "scaled_rules"),
    "logs.py": ("Log",),
    "desks.py": ("Desk", "LogDesk"),
    "shells.py": ("Shell",),
    "errors.py": (
        "RingError", "TooMany", "NotDivisible", "NotAlike", "OutOfRange", "BadRing", "BadRules", "Never", "Busy",
        "TooManyEdits", "BadUnits", "TooFew", "Broken", "BadFilling", "BadRule", "TooManyRules", "BadSize",
        "NothingToUndo", "BadEdits", "BadEdit", "Rejected", "BadNote", "BadText", "NoPlace", "NoTotal", "NoRule",
        "NoVersion",
    ),
}

ARGUMENTS = {
    "window_range": "n rules total first size", "smallest_filling": "n rules total",
    "greatest_filling": "n rules total", "next_filling": "n rules filling", "walk_fillings": "n rules total",
    "count_fillings": "n rules total", "least_steps": "one other", "find_way": "n rules one other",
    "way_holds": "n rules one other value", "ring_text": "n rules", "filling_text": "filling", "parse_ring": "value",
    "parse_filling": "n value", "parts_of": "filling many", "joined": "*fillings", "scaled_rules": "rules many",
}

# The methods and properties that stand in the body of each class, with their arguments.
BODIES = {
    "Desk": {
        "__init__": "self n rules", "filling": "self", "total": "self", "totals": "self", "rules": "self",
        "move": "self border units", "fill": "self total", "put": "self filling", "add": "self rule",
        "drop": "self index", "undo": "self", "attempt": "self edits * watch=None", "state": "self * version=None",
        "range_of": "self first size * version=None", "edits": "self", "read": "cls text", "__len__": "self",
        "__str__": "self", "__eq__": "self other",
    },
    "LogDesk": {"__init__": "self n rules"},
    "Log": {"__init__": "self", "note": "self text", "lines": "self"},
    "Shell": {"__init__": "self desk", "execute": "self line"},
}
DECORATED = {
    "filling": "property", "total": "property", "totals": "property", "rules": "property", "lines": "property",
    "read": "classmethod",
}

# L8, without the names that the files have no use for so far.
BUILTINS = (
    "len range enumerate zip min max sum abs sorted reversed int str bool list tuple dict set isinstance ord repr any "
    "all divmod ValueError LookupError"
).split()

# The first list of L25, and the additional ones that are used.
METHODS = (
    "append clear copy count endswith extend find get index insert isalnum isalpha isdigit islower isspace isupper "
    "items join keys ljust lower lstrip partition pop remove replace reverse rfind rjust rpartition rsplit rstrip "
    "setdefault split splitlines startswith strip update upper values zfill bit_length isascii"
).split()

# L5: the double-underscore methods that are used.
SPECIAL = ("__init__", "__len__", "__str__", "__eq__")

# L6, L7: nothing else of the language is in use; what a later file needs is to be looked up there first.
NODES = (
    "Module Expr Constant ImportFrom alias FunctionDef ClassDef arguments arg Return Assign AugAssign Name Load Store "
    "Attribute Subscript Slice Tuple List ListComp comprehension Call keyword If IfExp For While Raise Yield Compare "
    "BoolOp UnaryOp BinOp And Or Not USub Add Sub Mult FloorDiv Mod Pow Eq NotEq Lt LtE Gt GtE Is IsNot In NotIn "
    "JoinedStr FormattedValue Dict Try ExceptHandler"
).split()

BARRED = (
    "type|typing|typing_extensions|enum|Enum|IntEnum|StrEnum|Flag|IntFlag|Generic|Protocol|ABC|ABCMeta|namedtuple|"
    "NamedTuple|TypedDict|TYPE_CHECKING|abstractmethod"
)


def files():
    for name in sorted(os.listdir(FOLDER)):
        if name != "__pycache__":
            with open(os.path.join(FOLDER, name), encoding="utf-8") as file:
                yield name, file.read()


def trees():
    for name, text in files():
        yield name, ast.parse(text)


def signature(node):
    """The parameters of a function as the tables above write them."""
    words = [arg.arg for arg in node.args.args]
    if node.args.vararg is not None:
        words.append("*" + node.args.vararg.arg)
    elif node.args.kwonlyargs:
        words.append("*")
    for arg, default in zip(node.args.kwonlyargs, node.args.kw_defaults):
        words.append(f"{arg.arg}={default.value}")
    return " ".join(words)


def classes():
    """Yields all classes that are no errors."""
    for name, tree in trees():
        if name != "errors.py":
            yield from [node for node in tree.body if isinstance(node, ast.ClassDef)]


def methods_of(node):
    return {item.name: item for item in node.body if isinstance(item, ast.FunctionDef)}


def stored_attributes():
    """The names of all attributes that the package assigns."""
    nodes = [node for name, tree in trees() for node in ast.walk(tree)]
    return {node.attr for node in nodes if isinstance(node, ast.Attribute) and isinstance(node.ctx, ast.Store)}


class Form(unittest.TestCase):
    def test_interface(self):
        texts = dict(files())
        for name, expected in DEFINED.items():
            body = ast.parse(texts[name]).body
            found = [node.name for node in body if isinstance(node, (ast.FunctionDef, ast.ClassDef))]
            self.assertEqual([wanted for wanted in expected if found.count(wanted) != 1], [], name)
            for node in body:
                if isinstance(node, ast.FunctionDef) and node.name in ARGUMENTS:
                    self.assertEqual(signature(node), ARGUMENTS[node.name])
                    self.assertEqual(node.args.defaults, [])

    def test_methods_stand_in_their_classes(self):
        found = {node.name: methods_of(node) for node in classes()}
        self.assertEqual(sorted(found), sorted(BODIES))
        for name, expected in BODIES.items():
            for method, arguments in expected.items():
                self.assertEqual(signature(found[name][method]), arguments, (name, method))
                self.assertEqual(found[name][method].args.defaults, [])

    def test_decorators(self):
        for node in classes():
            self.assertEqual(node.decorator_list, [])
            for name, method in methods_of(node).items():
                expected = [DECORATED[name]] if name in DECORATED else []
                self.assertEqual([decorator.id for decorator in method.decorator_list], expected, name)
        for name, tree in trees():
            for node in tree.body:
                if isinstance(node, ast.FunctionDef):
                    self.assertEqual(node.decorator_list, [])

    def test_no_name_is_a_method_and_an_attribute(self):
        methods = {name for node in classes() for name in methods_of(node)}
        values = {item.targets[0].id for node in classes() for item in node.body if isinstance(item, ast.Assign)}
        self.assertEqual(values, {"MOST_EDITS"})
        self.assertEqual(stored_attributes() & (methods | values), set())
        self.assertEqual(methods & set(dir(str) + dir(list) + dir(dict) + dir(int)) - set(SPECIAL), set())

    def test_errors_are_caught_by_their_own_names(self):
        own = set(DEFINED["errors.py"])
        caught = 0
        for name, tree in trees():
            for node in ast.walk(tree):
                if isinstance(node, ast.ExceptHandler):
                    named = node.type.elts if isinstance(node.type, ast.Tuple) else [node.type]
                    self.assertLessEqual({item.id for item in named}, own, name)
                    caught += 1
        self.assertGreater(caught, 3)

    def test_finally_only_assigns_names_and_literals(self):
        for name, tree in trees():
            for node in ast.walk(tree):
                for statement in node.finalbody if isinstance(node, ast.Try) else []:
                    self.assertIsInstance(statement, ast.Assign, name)
                    for part in ast.walk(statement.value):
                        self.assertIsInstance(part, (ast.Name, ast.Tuple, ast.Constant, ast.Load), name)

    def test_sizes_and_characters(self):
        for name, text in files():
            with self.subTest(name=name):
                self.assertRegex(name, r"\A[a-z_][a-z0-9_]*\.py\Z")
                self.assertRegex(text, r"\A[ -~\n]*\Z")
                lines = text.split("\n")
                self.assertLess(len(lines), 400)
                self.assertLessEqual(max(len(line) for line in lines), 120)
                for node in ast.walk(ast.parse(text)):
                    if isinstance(node, ast.FunctionDef):
                        self.assertLessEqual(node.end_lineno - node.lineno + 1, 40, node.name)

    def test_words(self):
        for name, text in files():
            self.assertIsNone(re.search(rf"\b({BARRED})\b|dataclass|overload|contextmanager", text), name)

    def test_no_percent_sign_in_strings(self):
        for name, text in files():
            for node in ast.walk(ast.parse(text)):
                if isinstance(node, ast.Constant) and isinstance(node.value, str):
                    self.assertNotIn("%", node.value, name)

    def test_imports(self):
        for name, text in files():
            for node in ast.walk(ast.parse(text)):
                self.assertNotIsInstance(node, ast.Import, name)
                if isinstance(node, ast.ImportFrom):
                    self.assertRegex(node.module, r"\Aringwindows\.[a-z]+\Z")
                    self.assertEqual(node.level, 0)

    def test_no_imports_in_a_circle(self):
        imports = {}
        for name, text in files():
            found = [node for node in ast.walk(ast.parse(text)) if isinstance(node, ast.ImportFrom)]
            imports[name[:-3]] = {node.module.split(".")[1] for node in found}
        while imports:
            free = [name for name in imports if not imports[name] & set(imports)]
            self.assertNotEqual(free, [], imports)
            for name in free:
                del imports[name]

    def test_parts_of_the_language(self):
        for name, text in files():
            for node in ast.walk(ast.parse(text)):
                with self.subTest(name=name, line=getattr(node, "lineno", None)):
                    self.assertIn(node.__class__.__name__, NODES)
                    if isinstance(node, ast.Constant):
                        self.assertIn(type(node.value), (int, str, bool, type(None)))
                    if isinstance(node, ast.Compare) and isinstance(node.ops[0], (ast.Is, ast.IsNot)):
                        self.assertIsInstance(node.comparators[0], ast.Constant)

    def test_module_level(self):
        for name, text in files():
            body = ast.parse(text).body
            self.assertIsInstance(body[0].value.value, str)
            bound = []
            for node in body[1:]:
                self.assertIsInstance(node, (ast.ImportFrom, ast.FunctionDef, ast.ClassDef, ast.Assign), name)
                if isinstance(node, ast.ImportFrom):
                    bound += [alias.name for alias in node.names]
                else:
                    bound.append(node.targets[0].id if isinstance(node, ast.Assign) else node.name)
            self.assertEqual(sorted(set(bound)), sorted(bound), name)

    def test_names(self):
        for name, text in files():
            tree = ast.parse(text)
            imported = [node.names for node in tree.body if isinstance(node, ast.ImportFrom)]
            imported = [alias.name for names in imported for alias in names]
            named = [node.name for node in tree.body if isinstance(node, ast.ClassDef)]
            for node in ast.walk(tree):
                if isinstance(node, (ast.FunctionDef, ast.ClassDef)):
                    self.own_name(node.name)
                if isinstance(node, ast.arg):
                    self.own_name(node.arg)
                    self.assertNotIn(node.arg, imported + named)
                if isinstance(node, ast.Name) and isinstance(node.ctx, ast.Store):
                    self.own_name(node.id)
                    self.assertNotIn(node.id, imported + named)

    def own_name(self, name):
        if name not in SPECIAL:
            self.assertRegex(name, r"\A[A-Za-z][A-Za-z0-9_]*\Z")
            self.assertFalse(hasattr(builtins, name), name)

    def test_builtins_and_methods(self):
        own = [method for node in classes() for method in methods_of(node)]
        for name, tree in trees():
            for node in ast.walk(tree):
                if isinstance(node, ast.Name) and hasattr(builtins, node.id):
                    self.assertIn(node.id, BUILTINS + list(DECORATED.values()), name)
                if isinstance(node, ast.Call):
                    self.assertNotIn(getattr(node.func, "id", None), DECORATED.values())
                if isinstance(node, ast.Call) and isinstance(node.func, ast.Attribute):
                    self.assertIn(node.func.attr, METHODS + own, name)
                    self.assertEqual(node.keywords, [])


if __name__ == "__main__":
    unittest.main()
