"""The interface stands where the document lists it, and the files keep the plain rules of form."""

import ast
import os
import re
import unittest

FOLDER = os.path.join(os.path.dirname(os.path.dirname(os.path.abspath(__file__))), "ringwindows")

DEFINED = {
    "rules.py": (
        "is_rules", "rules_error", "window_places", "window_sum", "broken_rules", "fits", "turned_rules",
        "mirrored_rules",
    ),
    "reasons.py": ("bound_of", "totals_of", "find_certificate", "certificate_holds"),
}

BARRED = (
    "type|typing|typing_extensions|enum|Enum|IntEnum|StrEnum|Flag|IntFlag|Generic|Protocol|ABC|ABCMeta|namedtuple|"
    "NamedTuple|TypedDict|TYPE_CHECKING|abstractmethod"
)


def files():
    for name in sorted(os.listdir(FOLDER)):
        if name != "__pycache__":
            with open(os.path.join(FOLDER, name), encoding="utf-8") as file:
                yield name, file.read()


class Form(unittest.TestCase):
    def test_interface(self):
        texts = dict(files())
        for name, expected in DEFINED.items():
            found = [node.name for node in ast.parse(texts[name]).body if isinstance(node, ast.FunctionDef)]
            self.assertEqual([function for function in expected if found.count(function) != 1], [], name)

    def test_sizes_and_characters(self):
        for name, text in files():
            with self.subTest(name=name):
                self.assertRegex(name, r"\A[a-z_][a-z0-9_]*\.py\Z")
                self.assertRegex(text, r"\A[ -~\n]*\Z")
                lines = text.split("\n")
                self.assertLess(len(lines), 400)
                self.assertLessEqual(max(len(line) for line in lines), 120)
                for node in ast.walk(ast.parse(text)):
                    if isinstance(node, ast.FunctionDef):
                        self.assertLessEqual(node.end_lineno - node.lineno + 1, 40, node.name)

    def test_words(self):
        for name, text in files():
            self.assertIsNone(re.search(rf"\b({BARRED})\b|dataclass|overload|contextmanager", text), name)

    def test_no_percent_sign_in_strings(self):
        for name, text in files():
            for node in ast.walk(ast.parse(text)):
                if isinstance(node, ast.Constant) and isinstance(node.value, str):
                    self.assertNotIn("%", node.value, name)

    def test_imports(self):
        for name, text in files():
            for node in ast.walk(ast.parse(text)):
                self.assertNotIsInstance(node, ast.Import, name)
                if isinstance(node, ast.ImportFrom):
                    self.assertRegex(node.module, r"\Aringwindows\.[a-z]+\Z")
                    self.assertEqual(node.level, 0)


if __name__ == "__main__":
    unittest.main()
