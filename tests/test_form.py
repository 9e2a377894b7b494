"""Some rules of the language subset that a program can check: files, names, imports, sizes and words."""

import ast
import builtins
import os
import re
import unittest

ROOT = os.path.dirname(os.path.dirname(os.path.abspath(__file__)))
PACKAGE = os.path.join(ROOT, "tidemark")

BUILTINS = """
len range enumerate zip min max sum abs sorted reversed int str bool bytes list tuple dict set frozenset isinstance
ord repr any all divmod pow getattr hasattr setattr Exception ValueError TypeError KeyError IndexError LookupError
ZeroDivisionError ArithmeticError OverflowError RuntimeError NotImplementedError AttributeError StopIteration
NotImplemented iter next map super property staticmethod classmethod
""".split()

METHODS = """
append clear copy count endswith extend find get index insert isalnum isalpha isdigit islower isspace isupper items
join keys ljust lower lstrip partition pop remove replace reverse rfind rjust rpartition rsplit rstrip setdefault
split splitlines startswith strip update upper values zfill bit_length title capitalize swapcase casefold center
expandtabs removeprefix removesuffix rindex isascii isdecimal isnumeric istitle isidentifier isprintable translate
add discard
""".split()

BARRED_NAMES = "register mro elements open input law version_info with_traceback add_note format format_map".split()

BARRED_ATTRIBUTES = """
items keys values pop update append clear extend insert remove reverse setdefault sort args encode decode hex fromhex
""".split()

BARRED_WORDS = re.compile(
    r"\b(type|typing|typing_extensions|enum|Enum|IntEnum|StrEnum|Flag|IntFlag|Generic|Protocol|ABC|ABCMeta|namedtuple"
    r"|NamedTuple|TypedDict|TYPE_CHECKING|abstractmethod)\b|dataclass|overload|contextmanager|_wall|_WallAttr"
)

SPECIAL = "__init__ __eq__ __repr__ __str__ __len__ __class__ __name__".split()

LIBRARY = ("heapq", "math", "itertools", "collections")


def package_files():
    found = []
    for folder, folders, files in os.walk(PACKAGE):
        folders[:] = sorted(name for name in folders if name != "__pycache__")
        found += [os.path.join(folder, name) for name in sorted(files)]
    return found


def module_name(path):
    name = os.path.relpath(path, ROOT)[: -len(".py")].replace(os.sep, ".")
    return name[: -len(".__init__")] if name.endswith(".__init__") else name


def parsed_files():
    parsed = {}
    for path in package_files():
        with open(path, encoding="ascii") as source:
            parsed[module_name(path)] = ast.parse(source.read())
    return parsed


def defined_names(tree):
    names = []
    for statement in tree.body:
        if isinstance(statement, (ast.FunctionDef, ast.ClassDef)):
            names.append(statement.name)
        elif isinstance(statement, ast.Assign):
            names += [target.id for target in statement.targets]
    return names


def imported_names(tree):
    return [
        (statement.module, alias.name)
        for statement in tree.body
        if isinstance(statement, ast.ImportFrom)
        for alias in statement.names
    ]


class Files(unittest.TestCase):
    """L1, L10 and L14."""

    def test_names(self):
        paths = package_files()
        self.assertTrue(0 < len(paths) <= 100)
        for path in paths:
            self.assertRegex(os.path.basename(path), r"\A([a-z][a-z0-9_]*|__init__|__main__)\.py\Z")
            self.assertTrue(os.path.exists(os.path.join(os.path.dirname(path), "__init__.py")), path)
            self.assertFalse(os.path.isdir(path[: -len(".py")]), path)

    def test_characters_and_lengths_of_lines(self):
        for path in package_files():
            with open(path, "rb") as source:
                octets = source.read()
            self.assertTrue(all(octet == 10 or 32 <= octet <= 126 for octet in octets), path)
            lines = octets.decode("ascii").split("\n")
            self.assertLessEqual(len(lines) - 1, 399, path)
            self.assertLessEqual(max(len(line) for line in lines), 120, path)

    def test_lengths_of_functions(self):
        for name, tree in parsed_files().items():
            for part in ast.walk(tree):
                if isinstance(part, ast.FunctionDef):
                    self.assertLessEqual(part.end_lineno - part.lineno + 1, 40, (name, part.name))


class Imports(unittest.TestCase):
    """L2 and L16."""

    def test_imports_name_the_file_that_defines(self):
        parsed = parsed_files()
        for name, tree in parsed.items():
            for part in ast.walk(tree):
                self.assertNotIsInstance(part, ast.Import, name)
            for module, word in imported_names(tree):
                if module not in LIBRARY:
                    self.assertIn(word, defined_names(parsed[module]), (name, module))

    def test_imports_stand_at_the_top_and_are_used(self):
        for name, tree in parsed_files().items():
            used = [part.id for part in ast.walk(tree) if isinstance(part, ast.Name)]
            kinds = [isinstance(part, ast.ImportFrom) for part in tree.body[1:]]
            self.assertEqual(kinds, sorted(kinds, reverse=True), name)
            for _, word in imported_names(tree):
                self.assertIn(word, used, name)

    def test_no_two_files_import_from_each_other(self):
        imports = {}
        for name, tree in parsed_files().items():
            imports[name] = {module for module, _ in imported_names(tree) if module not in LIBRARY}
        while imports:
            ready = [name for name in imports if not imports[name] & set(imports)]
            self.assertTrue(ready, sorted(imports))
            for name in ready:
                del imports[name]


class Names(unittest.TestCase):
    """L8, L12, L15, L17, L18, L25 and L26."""

    def test_names_are_bound_once_and_are_no_builtins(self):
        for name, tree in parsed_files().items():
            bound = defined_names(tree) + [word for _, word in imported_names(tree)]
            self.assertEqual(len(bound), len(set(bound)), name)
            classes = [part.name for part in tree.body if isinstance(part, ast.ClassDef)]
            taken = classes + [word for _, word in imported_names(tree)]
            for part in ast.walk(tree):
                given = []
                if isinstance(part, ast.arg):
                    given = [part.arg]
                elif isinstance(part, ast.Name) and not isinstance(part.ctx, ast.Load):
                    given = [part.id]
                for word in given:
                    self.assertNotIn(word, taken, name)
                    self.assertFalse(hasattr(builtins, word), (name, word))
            for word in bound:
                self.assertFalse(hasattr(builtins, word), (name, word))

    def test_builtins_that_are_used(self):
        for name, tree in parsed_files().items():
            for part in ast.walk(tree):
                if isinstance(part, ast.Name) and hasattr(builtins, part.id):
                    self.assertIn(part.id, BUILTINS, name)

    def test_names_begin_with_at_most_one_underscore(self):
        for name, tree in parsed_files().items():
            for part in ast.walk(tree):
                for field in ("id", "arg", "attr", "name"):
                    word = getattr(part, field, None)
                    if isinstance(word, str) and word not in SPECIAL:
                        self.assertRegex(word, r"\A(_|_?[A-Za-z][A-Za-z0-9_]*)\Z", name)
                        self.assertNotIn(word, BARRED_NAMES, name)

    def test_attributes_are_methods_or_are_assigned(self):
        methods = []
        assigned = []
        read = []
        for name, tree in parsed_files().items():
            for part in ast.walk(tree):
                if isinstance(part, ast.ClassDef):
                    methods += [row.name for row in part.body if isinstance(row, ast.FunctionDef)]
                elif isinstance(part, ast.Attribute) and isinstance(part.ctx, ast.Store):
                    assigned.append(part.attr)
                elif isinstance(part, ast.Attribute):
                    read.append((name, part.attr))
        for word in assigned:
            self.assertNotIn(word, BARRED_ATTRIBUTES)
        for name, word in read:
            self.assertIn(word, methods + assigned + METHODS + SPECIAL, name)

    def test_words_and_strings(self):
        for path in package_files():
            with open(path, encoding="ascii") as source:
                text = source.read()
            self.assertIsNone(BARRED_WORDS.search(text), path)
            for part in ast.walk(ast.parse(text)):
                if isinstance(part, ast.Constant) and isinstance(part.value, str):
                    self.assertNotIn(chr(37), part.value, path)
                    self.assertFalse(part.value.endswith(("._", ".__")), path)


class Statements(unittest.TestCase):
    """L3, L4, L6, L7 and L19."""

    BARRED = (ast.AsyncFunctionDef, ast.AsyncFor, ast.AsyncWith, ast.Await, ast.Global, ast.GeneratorExp, ast.Yield)

    def test_parts_that_do_not_occur(self):
        for name, tree in parsed_files().items():
            for part in ast.walk(tree):
                self.assertNotIsInstance(part, self.BARRED, (name, getattr(part, "lineno", 0)))
                self.assertNotIsInstance(getattr(part, "op", None), (ast.Div, ast.MatMult), name)
                if isinstance(part, ast.Constant):
                    self.assertNotIsInstance(part.value, (float, complex, bytes), name)
                if isinstance(part, ast.ClassDef):
                    self.assertEqual(part.decorator_list, [], (name, part.name))

    def test_module_level(self):
        for name, tree in parsed_files().items():
            self.assertIsInstance(tree.body[0], ast.Expr, name)
            for part in tree.body[1:]:
                self.assertIsInstance(part, (ast.ImportFrom, ast.FunctionDef, ast.ClassDef, ast.Assign), name)

    def test_errors_are_raised_by_name(self):
        for name, tree in parsed_files().items():
            for part in ast.walk(tree):
                if isinstance(part, ast.Raise) and part.exc is not None:
                    self.assertIsInstance(part.exc, ast.Call, name)
                    self.assertIsInstance(part.exc.func, ast.Name, name)


if __name__ == "__main__":
    unittest.main()
