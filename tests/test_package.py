import ast
import inspect
import pathlib
import re
import unittest

from signmill import chains, errors, grinding, listing, milling, notes, overlaps, words

FOLDER = pathlib.Path(errors.__file__).parent

ARGUMENTS = [
    (words.before, ["one", "other"]),
    (grinding.steps_of, ["rules", "word"]),
    (grinding.step, ["rules", "word", "place", "number"]),
    (grinding.ground, ["rules", "word"]),
    (chains.walked, ["pairs", "word", "chain"]),
    (chains.turned, ["chain"]),
    (overlaps.overlaps, ["rules"]),
    (milling.milled, ["pairs", "rounds"]),
    (milling.asked, ["pairs", "rounds", "one", "other"]),
    (listing.forms, ["rules", "signs", "most"]),
    (notes.shown, ["pairs"]),
    (notes.read, ["lines"]),
]

# What the package may call of Python's own; so it reaches no clock, chance or file.
OWN_NAMES = """
len range enumerate zip min max sum abs sorted reversed int str bool list tuple dict set frozenset
isinstance ord repr any all divmod Exception ValueError TypeError KeyError IndexError LookupError
ZeroDivisionError ArithmeticError OverflowError RuntimeError NotImplementedError AttributeError
StopIteration
""".split()

OUT = """
type typing typing_extensions enum Enum IntEnum StrEnum Flag IntFlag Generic Protocol ABC ABCMeta
namedtuple NamedTuple TypedDict TYPE_CHECKING abstractmethod
""".split()


def bound_names(tree):
    names = set()
    for node in ast.walk(tree):
        if isinstance(node, (ast.FunctionDef, ast.ClassDef)):
            names.add(node.name)
        elif isinstance(node, ast.arg):
            names.add(node.arg)
        elif isinstance(node, ast.alias):
            names.add(node.asname or node.name)
        elif isinstance(node, ast.Name) and isinstance(node.ctx, ast.Store):
            names.add(node.id)
        elif isinstance(node, ast.ExceptHandler) and node.name:
            names.add(node.name)
    return names


class Interface(unittest.TestCase):
    def test_arguments_have_their_names(self):
        for function, names in ARGUMENTS:
            self.assertEqual(list(inspect.signature(function).parameters), names)


class Source(unittest.TestCase):
    def setUp(self):
        self.texts = {path.name: path.read_text("utf-8") for path in sorted(FOLDER.glob("*.py"))}
        self.trees = {name: ast.parse(text) for name, text in self.texts.items()}

    def test_only_python_files_lie_in_the_package(self):
        others = [path.name for path in FOLDER.iterdir() if path.suffix != ".py" and path.name != "__pycache__"]
        self.assertEqual(others, [])
        self.assertIn("__init__.py", self.texts)

    def test_only_own_modules_are_imported(self):
        for name, tree in self.trees.items():
            for node in ast.walk(tree):
                self.assertNotIsInstance(node, ast.Import, name)
                if isinstance(node, ast.ImportFrom):
                    self.assertEqual(node.level, 0, name)
                    self.assertTrue(node.module.startswith("signmill."), name)
                    self.assertIn(node.module.partition(".")[2] + ".py", self.texts)

    def test_only_plain_names_of_python_are_used(self):
        for name, tree in self.trees.items():
            bound = bound_names(tree)
            self.assertEqual(sorted(bound & set(OWN_NAMES)), [], name)
            used = {node.id for node in ast.walk(tree) if isinstance(node, ast.Name)}
            self.assertEqual(sorted(used - bound - set(OWN_NAMES)), [], name)

    def test_words_and_signs(self):
        for name, text in self.texts.items():
            self.assertRegex(text, r"\A[\n -~]*\Z", name)
            self.assertEqual(sorted(set(re.findall(r"\w+", text)) & set(OUT)), [], name)

    def test_sizes(self):
        for name, text in self.texts.items():
            self.assertLessEqual(len(text.splitlines()), 400, name)
            self.assertLessEqual(max(map(len, text.splitlines()), default=0), 120, name)
            for node in ast.walk(self.trees[name]):
                if isinstance(node, ast.FunctionDef):
                    self.assertLessEqual(node.end_lineno - node.lineno + 1, 40, (name, node.name))


if __name__ == "__main__":
    unittest.main()
