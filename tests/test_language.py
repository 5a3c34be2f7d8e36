"""The rules of the language that can be read off the files, and where the interface is defined."""

import ast
import builtins
import pathlib
import re
import unittest

PACKAGE = pathlib.Path(__file__).resolve().parent.parent / "freerides"
FILES = sorted(PACKAGE.glob("*.py"))

INTERFACE = {
    "errors": ["RideError", "NoCards", "NoPurse", "NoStamps", "NoRow", "NoNumber", "NoPurses", "NoSeen", "NoRide",
               "NoKind", "NoLoan", "NothingLeft", "TooFew"],
    "cards": ["are_cards(thing)", "is_purse(cards, thing)", "behind(cards, purse, row)"],
    "rides": ["all_rides(cards, purse)", "left(cards, purse)", "least_endless(cards, stamps)",
              "least_rides(cards, stamps, number)"],
    "loans": ["greatest(cards, purse)", "can_have(cards, purse, number)", "least_loan(cards, purse, number)"],
    "folk": ["apart(cards, purses)", "together(cards, purses)"],
    "seen": ["fits(seen)"],
    "kept": ["Kept", "Kept.__init__(self, cards, purse)", "Kept.ride(self)", "Kept.give(self, kind)",
             "Kept.lend(self, number)", "Kept.pay(self, number)", "Kept.back(self)", "Kept.purse(self)",
             "Kept.ridden(self)", "Kept.lent(self)", "Kept.still(self)", "Kept.__len__(self)",
             "Kept.__eq__(self, other)"],
}

BUILTINS = set(
    "len range enumerate zip min max sum abs sorted reversed int str bool bytes list tuple dict set frozenset "
    "isinstance ord repr any all divmod iter next super Exception ValueError TypeError KeyError IndexError "
    "LookupError ZeroDivisionError ArithmeticError OverflowError RuntimeError NotImplementedError AttributeError "
    "StopIteration NotImplemented".split())

BARRED = re.compile(
    r"\b(type|typing|typing_extensions|enum|Enum|IntEnum|StrEnum|Flag|IntFlag|Generic|Protocol|ABC|ABCMeta|namedtuple"
    r"|NamedTuple|TypedDict|TYPE_CHECKING|abstractmethod)\b|dataclass|overload|contextmanager")


def tree(path):
    """The parsed file."""
    return ast.parse(path.read_text(encoding="ascii"))


def defined(path):
    """The names that a file binds by def, class or assignment at module level."""
    names = []
    for row in tree(path).body:
        if isinstance(row, (ast.FunctionDef, ast.ClassDef)):
            names.append(row.name)
        elif isinstance(row, ast.Assign):
            names.append(row.targets[0].id)
    return names


def signature(row):
    """The name of a function with its arguments, as the interface writes it."""
    return f"{row.name}({', '.join(arg.arg for arg in row.args.args)})"


class Files(unittest.TestCase):
    def test_the_folder_holds_nothing_else(self):
        for path in PACKAGE.iterdir():
            if path.name != "__pycache__":
                self.assertRegex(path.name, r"\A[a-z0-9_]+\.py\Z")
        self.assertTrue((PACKAGE / "__init__.py").is_file())

    def test_sizes_and_characters(self):
        for path in FILES:
            text = path.read_bytes().decode("ascii")
            self.assertIsNone(re.search(r"[^\n -~]", text), path.name)
            self.assertLessEqual(len(text.splitlines()), 399, path.name)
            self.assertLessEqual(max(map(len, text.splitlines())), 120, path.name)
            for node in ast.walk(ast.parse(text)):
                if isinstance(node, ast.FunctionDef):
                    self.assertLessEqual(node.end_lineno - node.lineno + 1, 40, node.name)

    def test_barred_words(self):
        for path in FILES:
            self.assertIsNone(BARRED.search(path.read_text(encoding="ascii")), path.name)


class Code(unittest.TestCase):
    def test_imports_name_the_file_that_defines(self):
        for path in FILES:
            for node in ast.walk(tree(path)):
                self.assertNotIsInstance(node, ast.Import)
                if isinstance(node, ast.ImportFrom):
                    self.assertRegex(node.module, r"\Afreerides\.[a-z]+\Z")
                    names = defined(PACKAGE / f"{node.module.split('.')[1]}.py")
                    for alias in node.names:
                        self.assertIn(alias.name, names, path.name)

    def test_builtins(self):
        for path in FILES:
            for node in ast.walk(tree(path)):
                if isinstance(node, ast.Name) and hasattr(builtins, node.id):
                    self.assertIn(node.id, BUILTINS, path.name)
                    self.assertIsInstance(node.ctx, ast.Load, path.name)
                if isinstance(node, ast.arg):
                    self.assertFalse(hasattr(builtins, node.arg), path.name)

    def test_no_floats_and_no_slash(self):
        for path in FILES:
            for node in ast.walk(tree(path)):
                self.assertNotIsInstance(node, (ast.Div, ast.Global, ast.AsyncFunctionDef), path.name)
                if isinstance(node, ast.Constant):
                    self.assertNotIsInstance(node.value, (float, complex), path.name)

    def test_names(self):
        for path in FILES:
            for node in ast.walk(tree(path)):
                name = getattr(node, "id", getattr(node, "arg", getattr(node, "name", None)))
                if isinstance(name, str) and name not in ("__init__", "__len__", "__eq__"):
                    self.assertRegex(name, r"\A[A-Za-z][A-Za-z0-9_]*\Z", path.name)

    def test_what_takes_a_list_takes_no_generator(self):
        for path in FILES:
            for node in ast.walk(tree(path)):
                self.assertNotIsInstance(node, ast.GeneratorExp, path.name)

    def test_no_method_has_the_name_of_an_attribute(self):
        methods, attributes = set(), set()
        for path in FILES:
            for node in ast.walk(tree(path)):
                if isinstance(node, ast.ClassDef):
                    methods |= {part.name for part in node.body if isinstance(part, ast.FunctionDef)}
                if isinstance(node, ast.Attribute) and isinstance(node.ctx, ast.Store):
                    attributes.add(node.attr)
        self.assertEqual(methods & attributes, set())

    def test_the_interface_is_defined_where_it_is_listed(self):
        for module, listed in INTERFACE.items():
            told = []
            for row in tree(PACKAGE / f"{module}.py").body:
                if isinstance(row, ast.FunctionDef):
                    told.append(signature(row))
                elif isinstance(row, ast.ClassDef):
                    told.append(row.name)
                    told += [f"{row.name}.{signature(part)}" for part in row.body if isinstance(part, ast.FunctionDef)]
            for entry in listed:
                self.assertIn(entry, told, module)


if __name__ == "__main__":
    unittest.main()
