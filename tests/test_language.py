"""The package keeps to the part of Python that its rules allow, as far as a walk over the code can tell."""

import ast
import builtins
import pathlib
import re
import unittest

PACKAGE = pathlib.Path(__file__).resolve().parent.parent / "holeshapes"

STATEMENTS = """Module FunctionDef ClassDef Return Assign AugAssign For While If Raise Try ExceptHandler ImportFrom
    alias Expr Pass Break Continue arguments arg""".split()
EXPRESSIONS = """BoolOp BinOp UnaryOp Lambda IfExp Dict List Tuple ListComp comprehension Compare Call keyword
    Constant Attribute Subscript Slice Name Load Store JoinedStr FormattedValue And Or Not Add Sub Mult FloorDiv
    Mod Pow LShift RShift BitOr BitXor BitAnd Invert USub UAdd Eq NotEq Lt LtE Gt GtE Is IsNot In NotIn""".split()
BUILTINS = """len range enumerate zip min max sum abs sorted reversed int str bool list tuple dict set frozenset
    isinstance ord repr any all divmod Exception ValueError TypeError KeyError IndexError LookupError
    ZeroDivisionError ArithmeticError OverflowError RuntimeError NotImplementedError StopIteration""".split()
METHODS = """append clear copy count endswith extend find get index insert isalnum isalpha isdigit islower isspace
    isupper items join keys ljust lower lstrip partition pop remove replace reverse rfind rjust rpartition rsplit
    rstrip setdefault split splitlines startswith strip update upper values zfill bit_length __init__""".split()
UNUSED_NAMES = """register mro elements open input version_info with_traceback add_note attrgetter breakpoint builtins
    compile copyright credits delattr dir eval exec exit gc getattr globals hasattr help id importlib license locals
    methodcaller os quit setattr super type vars sys""".split()
UNUSED_WORDS = """type typing typing_extensions enum Enum IntEnum StrEnum Flag IntFlag Generic Protocol ABC ABCMeta
    namedtuple NamedTuple TypedDict TYPE_CHECKING abstractmethod""".split()
OWN_KINDS = [str, int, list, dict, set, bytes, tuple]


def sources():
    return [(path, path.read_text(encoding="utf-8")) for path in sorted(PACKAGE.glob("*.py"))]


def walks():
    for path, text in sources():
        for part in ast.walk(ast.parse(text)):
            yield path.name, part


class Language(unittest.TestCase):
    def refuse(self, name, part, why):
        self.fail(f"{name}:{getattr(part, 'lineno', '?')}: {why}")

    def test_files(self):
        names = sorted(path.name for path in PACKAGE.iterdir() if path.name != "__pycache__")
        self.assertIn("__init__.py", names)
        for name in names:
            self.assertRegex(name, r"^([a-z][a-z0-9_]*|__init__|__main__)\.py$")

    def test_lines_and_signs(self):
        for path, text in sources():
            self.assertLessEqual(len(text.splitlines()), 400, path.name)
            self.assertRegex(text, r"\A[ -~\n]*\Z", path.name)
            for line in text.splitlines():
                self.assertLessEqual(len(line), 120, path.name)

    def test_words(self):
        for path, text in sources():
            words = re.findall(r"\w+", text)
            self.assertEqual([word for word in words if word in UNUSED_WORDS], [], path.name)
            self.assertNotRegex(text, "dataclass|overload|contextmanager", path.name)

    def test_only_allowed_parts(self):
        for name, part in walks():
            if type(part).__name__ not in STATEMENTS + EXPRESSIONS:
                self.refuse(name, part, type(part).__name__)
            if isinstance(part, (ast.For, ast.While)) and part.orelse:
                self.refuse(name, part, "else behind a loop")
            if isinstance(part, ast.Assign) and (len(part.targets) != 1 or isinstance(part.targets[0], ast.Tuple)):
                self.refuse(name, part, "more than one target")
            if isinstance(part, ast.comprehension) and len(part.ifs) > 1:
                self.refuse(name, part, "more than one if")
            if isinstance(part, ast.ListComp) and len(part.generators) > 1:
                self.refuse(name, part, "more than one for")
            if isinstance(part, ast.Constant) and not isinstance(part.value, (int, str, type(None))):
                self.refuse(name, part, "a value of another kind")

    def test_functions(self):
        for name, part in walks():
            if isinstance(part, ast.FunctionDef):
                self.assertLessEqual(part.end_lineno - part.lineno + 1, 40, part.name)
                self.assertEqual((part.decorator_list, part.returns), ([], None), part.name)
                self.assertEqual((part.args.vararg, part.args.kwarg, part.args.kwonlyargs), (None, None, []))

    def test_top_of_modules(self):
        allowed = (ast.ImportFrom, ast.FunctionDef, ast.ClassDef, ast.Assign)
        for path, text in sources():
            body = ast.parse(text).body
            self.assertIsNotNone(ast.get_docstring(ast.parse(text)), path.name)
            for part in body[1:]:
                if not isinstance(part, allowed):
                    self.refuse(path.name, part, "not for the top of a file")

    def test_imports(self):
        for name, part in walks():
            if isinstance(part, ast.ImportFrom):
                self.assertEqual(part.level, 0, name)
                self.assertRegex(part.module, r"^holeshapes\.[a-z]+$", name)
                self.assertNotEqual(name, "__init__.py")

    def test_names(self):
        for name, part in walks():
            words = [getattr(part, field, None) for field in ("id", "attr", "arg")]
            if isinstance(part, (ast.FunctionDef, ast.ClassDef)):
                words.append(part.name)
            for word in [word for word in words if word is not None]:
                if word.startswith("_") and word != "__init__" or word in UNUSED_NAMES:
                    self.refuse(name, part, word)

    def test_python_s_own_names(self):
        for name, part in walks():
            bound = isinstance(part, ast.arg) or isinstance(part, ast.Name) and isinstance(part.ctx, ast.Store)
            word = getattr(part, "id", getattr(part, "arg", None))
            if bound and hasattr(builtins, word):
                self.refuse(name, part, f"{word} given another meaning")
            if isinstance(part, ast.Name) and hasattr(builtins, word) and word not in BUILTINS:
                self.refuse(name, part, word)

    def test_methods(self):
        own = {part.name for name, part in walks() if isinstance(part, ast.FunctionDef)}
        values = {part.attr for name, part in walks()
                  if isinstance(part, ast.Attribute) and isinstance(part.ctx, ast.Store)}
        self.assertEqual(own & values, set())
        for word in sorted(own | values):
            python_s = any(hasattr(kind, word) for kind in OWN_KINDS)
            self.assertTrue(not python_s or word in METHODS, word)
        for name, part in walks():
            if isinstance(part, ast.Call) and isinstance(part.func, ast.Attribute):
                if part.func.attr not in METHODS and part.func.attr not in own:
                    self.refuse(name, part, part.func.attr)
