"""The rules of the Python subset that a short program can see in the files of the package."""

import ast
import builtins
import re
import unittest
from pathlib import Path

PACKAGE = Path(__file__).resolve().parent.parent / "truealmanac"
FILES = sorted(PACKAGE.rglob("*.py"))
BUILTINS = set(
    "len range enumerate zip min max sum abs sorted reversed int str bool list tuple dict set isinstance ord repr any "
    "all divmod ValueError TypeError KeyError IndexError LookupError ZeroDivisionError ArithmeticError".split()
)
METHODS = set(
    "append clear copy count endswith extend find get index insert isalnum isalpha isdigit islower isspace isupper "
    "items join keys ljust lower lstrip partition pop remove replace reverse rfind rjust rpartition rsplit rstrip "
    "setdefault split splitlines startswith strip update upper values zfill bit_length".split()
)
BARRED_NODES = (
    ast.Global, ast.AsyncFunctionDef, ast.AsyncFor, ast.AsyncWith, ast.Await, ast.TryStar, ast.Div, ast.Yield,
    ast.YieldFrom, ast.AnnAssign, ast.Import, ast.Nonlocal,
)
BARRED_NAMES = set(
    "register mro elements open input law version_info with_traceback add_note attrgetter breakpoint builtins compile "
    "copyright credits delattr dir eval exec exit gc globals help id importlib license locals methodcaller os quit "
    "setattr super type vars sys hash map next iter round filter format".split()
)
BARRED_WORDS = set(
    "type typing typing_extensions enum Enum IntEnum StrEnum Flag IntFlag Generic Protocol ABC ABCMeta namedtuple "
    "NamedTuple TypedDict TYPE_CHECKING abstractmethod dataclass overload contextmanager".split()
)
# L12: what no name begins with, and what no name is, also not with digits or underscores behind it.
BARRED_BEGINNINGS = "_pe_ _dcw_ _enum_ _cm_ _twin_re_ _lay_ _law_ _stub_ _sre _WallAttr".split()
BARRED_WHOLE = re.compile("_(cold|tuplegetter|outside|record|written_out|member_names)[0-9_]*")
BARRED_ANYWHERE = re.compile(r"\b(_wall|_WallAttr)\b")
# The fields of a node of a tree that have names in them.
NAME_FIELDS = ("id", "attr", "name", "asname", "arg", "rest", "module", "names", "kwd_attrs")


def functions_of(tree):
    return [node for node in ast.walk(tree) if isinstance(node, ast.FunctionDef)]


def bound_names(tree):
    """The names that assignments, loops, handlers, parameters, functions and classes bind."""
    for node in ast.walk(tree):
        if isinstance(node, ast.Name) and isinstance(node.ctx, ast.Store):
            yield node.id
        elif isinstance(node, (ast.FunctionDef, ast.ClassDef)) or (isinstance(node, ast.ExceptHandler) and node.name):
            yield node.name
        elif isinstance(node, ast.arg):
            yield node.arg


def names_of(tree):
    """All names, where they are bound and where they are used, each with True if it is a method or an attribute."""
    methods = {id(node) for owner in ast.walk(tree) if isinstance(owner, ast.ClassDef) for node in owner.body}
    for node in ast.walk(tree):
        for field in NAME_FIELDS:
            told = getattr(node, field, None)
            for name in told if isinstance(told, list) else [told]:
                if isinstance(name, str):
                    yield name, field in ("attr", "kwd_attrs") or id(node) in methods


def names_barred_by_l12(text):
    """The names in the text of a file that L12 bars, and the words that it bars anywhere."""
    found = BARRED_ANYWHERE.findall(text)
    for name, is_member in names_of(ast.parse(text)):
        for part in name.split("."):
            starts = any(part.startswith(beginning) for beginning in BARRED_BEGINNINGS)
            if starts or BARRED_WHOLE.fullmatch(part) or (part.startswith("_wall") and not is_member):
                found.append(part)
    return found


def docstrings_of(tree):
    owners = [tree] + [node for node in ast.walk(tree) if isinstance(node, (ast.FunctionDef, ast.ClassDef))]
    return [node.body[0].value for node in owners if ast.get_docstring(node) is not None]


class Rules(unittest.TestCase):
    def each(self):
        for path in FILES:
            text = path.read_text(encoding="ascii")
            yield path, text, ast.parse(text)

    def test_files(self):
        names = [path.name for path in PACKAGE.iterdir() if path.name != "__pycache__"]
        self.assertTrue(all(re.fullmatch(r"[a-z_]+\.py", name) for name in names), names)

    def test_size_and_characters(self):
        for _, text, tree in self.each():
            lines = text.split("\n")
            self.assertLessEqual(len(lines), 399)
            self.assertLessEqual(max(len(line) for line in lines), 120)
            self.assertTrue(all(c == "\n" or " " <= c <= "~" for c in text))
            for function in functions_of(tree):
                self.assertLessEqual(function.end_lineno - function.lineno + 1, 40, function.name)

    def test_imports(self):
        for _, _, tree in self.each():
            body = [node for node in tree.body if not isinstance(node, ast.Expr)]
            kinds = [isinstance(node, ast.ImportFrom) for node in body]
            self.assertEqual(kinds, sorted(kinds, reverse=True))
            for node in [node for node in ast.walk(tree) if isinstance(node, ast.ImportFrom)]:
                self.assertIn(node, tree.body)
                self.assertEqual(node.level, 0)
                if node.module == "math":
                    self.check_math(tree, node)
                    continue
                path = PACKAGE.parent / (node.module.replace(".", "/") + ".py")
                self.assertTrue(path.is_relative_to(PACKAGE) and path.exists(), node.module)
                told = ast.parse(path.read_text()).body
                names = {t.id for line in told if isinstance(line, ast.Assign) for t in line.targets}
                names |= {line.name for line in told if isinstance(line, (ast.FunctionDef, ast.ClassDef))}
                for alias in node.names:
                    self.assertIsNone(alias.asname)
                    self.assertIn(alias.name, names)

    def check_math(self, tree, node):
        """The functions of the library (L2) are only called, in functions, with arguments by position."""
        for alias in node.names:
            self.assertIsNone(alias.asname)
            self.assertIn(alias.name, ("gcd", "lcm", "isqrt", "comb", "perm", "factorial"))
            calls = [call for function in functions_of(tree) for call in ast.walk(function)
                     if isinstance(call, ast.Call) and isinstance(call.func, ast.Name) and call.func.id == alias.name]
            uses = [name for name in ast.walk(tree) if isinstance(name, ast.Name) and name.id == alias.name]
            self.assertEqual(len({id(call.func) for call in calls}), len(uses))
            self.assertFalse([call for call in calls if call.keywords])
            self.assertFalse((PACKAGE / "math.py").exists())

    def test_no_circles_of_imports(self):
        needs = {}
        for path, _, tree in self.each():
            needs[path.stem] = {node.module.split(".")[-1] for node in tree.body if isinstance(node, ast.ImportFrom)}
        while needs:
            free = [name for name in needs if not needs[name] & set(needs)]
            self.assertTrue(free, needs)
            for name in free:
                del needs[name]

    def test_module_level(self):
        for _, _, tree in self.each():
            for node in tree.body:
                if isinstance(node, ast.Assign):
                    self.assertEqual(len(node.targets), 1)
                    self.assertIsInstance(node.targets[0], ast.Name)
                    ast.literal_eval(node.value)
                elif isinstance(node, ast.Expr):
                    self.assertIsInstance(node.value.value, str)
                else:
                    self.assertIsInstance(node, (ast.ImportFrom, ast.FunctionDef, ast.ClassDef))

    def test_statements_and_expressions(self):
        for _, _, tree in self.each():
            for node in ast.walk(tree):
                self.assertNotIsInstance(node, BARRED_NODES)
                if isinstance(node, ast.Constant):
                    self.assertNotIsInstance(node.value, (float, complex))
                    self.assertFalse(isinstance(node.value, str) and chr(37) in node.value)
                if isinstance(node, (ast.FunctionDef, ast.ClassDef)):
                    self.assertEqual(node.decorator_list, [])
                if isinstance(node, ast.Raise):
                    self.assertIsInstance(node.exc, ast.Call)
                if isinstance(node, ast.Compare) and any(isinstance(op, (ast.Is, ast.IsNot)) for op in node.ops):
                    self.assertTrue(all(isinstance(other, ast.Constant) for other in node.comparators))

    def test_names(self):
        for _, text, tree in self.each():
            imported = {alias.name for node in tree.body if isinstance(node, ast.ImportFrom) for alias in node.names}
            classes = {node.name for node in tree.body if isinstance(node, ast.ClassDef)}
            bound = list(bound_names(tree))
            self.assertFalse((set(bound) - classes) & imported)
            self.assertFalse(set(bound) & (BARRED_NAMES | set(dir(builtins))))
            self.assertFalse([name for name in bound if name.startswith("__") and name != "__init__"])
            known = set(bound) | imported | BUILTINS
            read = {node.id for node in ast.walk(tree) if isinstance(node, ast.Name) and isinstance(node.ctx, ast.Load)}
            self.assertFalse(read - known)
            self.assertNotIn("_", read)
            docstrings = docstrings_of(tree)
            texts = [node.value for node in ast.walk(tree) if isinstance(node, ast.Constant)
                     and isinstance(node.value, str) and node not in docstrings]
            words = set(re.findall(r"\w+", " ".join([*texts, *bound, *read])))
            self.assertFalse(words & BARRED_WORDS)

    def test_methods(self):
        own = {function.name for path in FILES for function in functions_of(ast.parse(path.read_text()))}
        for _, _, tree in self.each():
            for node in ast.walk(tree):
                if isinstance(node, ast.Call) and isinstance(node.func, ast.Attribute):
                    self.assertIn(node.func.attr, METHODS | own)
                if isinstance(node, ast.Call) and isinstance(node.func, ast.Name) and node.func.id in ("set", "zip"):
                    self.assertFalse(node.keywords)

    def test_each_name_is_bound_once(self):
        for _, _, tree in self.each():
            names = [node.name for node in tree.body if isinstance(node, (ast.FunctionDef, ast.ClassDef))]
            names += [node.targets[0].id for node in tree.body if isinstance(node, ast.Assign)]
            names += [alias.name for node in tree.body if isinstance(node, ast.ImportFrom) for alias in node.names]
            self.assertEqual(len(names), len(set(names)))

    def test_names_that_l12_bars(self):
        for path, text, _ in self.each():
            self.assertEqual(names_barred_by_l12(text), [], path.name)
            self.assertIsNone(BARRED_WHOLE.fullmatch(path.stem))


class BarredNames(unittest.TestCase):
    """That the search for barred names would find them."""

    def test_each_beginning(self):
        for beginning in [*BARRED_BEGINNINGS, "_wall"]:
            name = beginning + "q"
            for text in [
                f"def {name}():\n    pass", f"class {name}:\n    pass", f"{name} = 1", f"print({name})",
                f"def f({name}):\n    pass", f"def f(*{name}):\n    pass", f"def f(**{name}):\n    pass",
                f"f({name}=1)", f"[1 for {name} in x]", f"from a.{name} import b", f"from a import {name}",
                f"from a import b as {name}", f"try:\n    pass\nexcept E as {name}:\n    pass",
                f"match x:\n    case [*{name}]:\n        pass", f"match x:\n    case {name}:\n        pass",
                f"def f():\n    def g():\n        nonlocal {name}",
            ]:
                self.assertIn(name, names_barred_by_l12(text), text)

    def test_methods_and_attributes(self):
        for beginning in BARRED_BEGINNINGS:
            name = beginning + "q"
            for text in [f"class C:\n    def {name}(self):\n        pass", f"x.{name} = 1", f"x.{name}()"]:
                self.assertIn(name, names_barred_by_l12(text), text)
        for text in ["class C:\n    def _walls(self):\n        pass", "x._walls = 1", "x._walls()"]:
            self.assertEqual(names_barred_by_l12(text), [])

    def test_words(self):
        for word in "_cold _tuplegetter _outside _record _written_out _member_names".split():
            for name in [word, word + "_", word + "1", word + "_2_"]:
                for text in [f"{name} = 1", f"x.{name}", f"def {name}():\n    pass", f"def f({name}):\n    pass"]:
                    self.assertIn(name, names_barred_by_l12(text), text)
            self.assertEqual(names_barred_by_l12(f"{word}s = {word}_a = x{word} = 1"), [])
        for word in ("_wall", "_WallAttr"):
            for text in [f"# a {word} here", f"x = '{word}'", f"x.{word}"]:
                self.assertIn(word, names_barred_by_l12(text), text)

    def test_names_that_are_free(self):
        text = "def _add(_pages, _lays, _lawn, _streams, _walnut, _twin):\n    return self._layer, self._enumerated"
        self.assertEqual(names_barred_by_l12(text), [])


if __name__ == "__main__":
    unittest.main()
