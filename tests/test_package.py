"""The interface stands where the document lists it, and the files keep to the plain rules of the language."""

import ast
import builtins
import pathlib
import re
import unittest

FOLDER = pathlib.Path(__file__).resolve().parent.parent / "anyspan"

FUNCTIONS = {
    "rules": {"are_rules": ["thing"], "is_row": ["thing"], "keeps": ["rules", "row"]},
    "parts": {
        "parts": ["rules"], "even_row": ["part", "many"], "clash": ["rules"],
        "longest": ["rules"], "longest_row": ["rules"],
    },
    "fillings": {"filling": ["rules", "told"], "how_many": ["rules", "told"]},
    "chains": {
        "chain": ["rules", "told"], "gain": ["rules", "told", "thing"],
        "marks": ["rules", "told"], "mark_chains": ["rules", "told"],
    },
    "goings": {
        "goes_on": ["rules", "row"], "nexts": ["rules", "row"],
        "alike": ["one", "other"], "parted": ["one", "other"],
    },
}
CLASSES = {
    "errors": [
        "SpanError", "NoRules", "NoRow", "NoTold", "NoPart", "NoNumber", "NoPlace", "Full", "NoneLeft", "Breaks",
    ],
    "laid": ["Laid"],
}
METHODS = {
    "__init__": ["self", "rules"], "lay": ["self", "place"], "take": ["self"], "row": ["self"], "marked": ["self"],
    "goes_on": ["self"], "can_be_laid": ["self"], "__len__": ["self"], "__eq__": ["self", "other"],
}
BUILTINS = set(
    "len range enumerate zip min max sum abs sorted reversed int str bool list tuple dict set isinstance ord repr "
    "any all divmod super property Exception ValueError TypeError KeyError IndexError LookupError ZeroDivisionError "
    "NotImplemented".split()
)
WORDS = re.compile(
    r"\b(type|typing|typing_extensions|enum|Enum|IntEnum|StrEnum|Flag|IntFlag|Generic|Protocol|ABC|ABCMeta|namedtuple"
    r"|NamedTuple|TypedDict|TYPE_CHECKING|abstractmethod)\b|dataclass|overload|contextmanager"
)
STATEMENTS_OUTSIDE = (ast.FunctionDef, ast.ClassDef, ast.ImportFrom, ast.Assign)


def parsed():
    return {path.stem: ast.parse(path.read_text(encoding="utf-8")) for path in sorted(FOLDER.glob("*.py"))}


class Interface(unittest.TestCase):
    def test_functions(self):
        trees = parsed()
        for module, functions in FUNCTIONS.items():
            defined = {node.name: node for node in trees[module].body if isinstance(node, ast.FunctionDef)}
            for name, wanted in functions.items():
                self.assertEqual([part.arg for part in defined[name].args.args], wanted)

    def test_classes(self):
        trees = parsed()
        for module, classes in CLASSES.items():
            defined = [node.name for node in trees[module].body if isinstance(node, ast.ClassDef)]
            self.assertEqual(sorted(defined), sorted(classes))

    def test_methods(self):
        laid = [node for node in parsed()["laid"].body if isinstance(node, ast.ClassDef)][0]
        defined = {node.name: node for node in laid.body if isinstance(node, ast.FunctionDef)}
        for name, wanted in METHODS.items():
            self.assertEqual([part.arg for part in defined[name].args.args], wanted)


class Language(unittest.TestCase):
    def test_files(self):
        for path in FOLDER.iterdir():
            if path.name != "__pycache__":
                self.assertRegex(path.name, r"\A[a-z0-9_]+\.py\Z")
        self.assertTrue((FOLDER / "__init__.py").is_file())

    def test_lines_signs_and_words(self):
        for path in FOLDER.glob("*.py"):
            text = path.read_bytes().decode("ascii")
            self.assertTrue(all(sign == "\n" or " " <= sign <= "~" for sign in text), path)
            lines = text.split("\n")
            self.assertLessEqual(len(lines), 400, path)
            self.assertLessEqual(max(len(line) for line in lines), 120, path)
            self.assertIsNone(WORDS.search(text), path)

    def test_functions_are_short(self):
        for stem, tree in parsed().items():
            for node in ast.walk(tree):
                if isinstance(node, ast.FunctionDef):
                    self.assertLessEqual(node.end_lineno - node.lineno + 1, 40, (stem, node.name))

    def test_module_level(self):
        for stem, tree in parsed().items():
            self.assertIsNotNone(ast.get_docstring(tree), stem)
            for node in tree.body[1:]:
                self.assertIsInstance(node, STATEMENTS_OUTSIDE, stem)

    def test_imports(self):
        for stem, tree in parsed().items():
            for node in ast.walk(tree):
                self.assertNotIsInstance(node, ast.Import, stem)
                if isinstance(node, ast.ImportFrom):
                    self.assertTrue(node.module.startswith("anyspan."), stem)
                    self.assertEqual(node.level, 0, stem)

    def test_no_other_builtins(self):
        for stem, tree in parsed().items():
            for node in ast.walk(tree):
                if isinstance(node, ast.Name) and hasattr(builtins, node.id):
                    self.assertIn(node.id, BUILTINS, (stem, node.lineno))
                    self.assertIsInstance(node.ctx, ast.Load, (stem, node.lineno))

    def test_no_floats_and_plain_names(self):
        for stem, tree in parsed().items():
            for node in ast.walk(tree):
                self.assertNotIsInstance(node, (ast.Div, ast.GeneratorExp, ast.Global), stem)
                if isinstance(node, ast.Constant):
                    self.assertNotIsInstance(node.value, (float, complex), stem)
                if isinstance(node, ast.Name):
                    self.assertFalse(node.id.startswith("_"), (stem, node.id))


if __name__ == "__main__":
    unittest.main()
