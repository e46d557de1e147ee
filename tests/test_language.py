"""The rules of LANGUAGE.md over the files of the package, as far as a script can check them."""

import ast
import builtins
import io
import keyword
import re
import tokenize
import unittest
from pathlib import Path

PACKAGE = Path(__file__).resolve().parent.parent / "loopyard"
ALLOWED_BUILTINS = set(
    "len range enumerate zip min max sum abs sorted reversed int str bool bytes list tuple dict set frozenset "
    "isinstance ord repr any all divmod Exception ValueError TypeError KeyError IndexError LookupError "
    "ZeroDivisionError ArithmeticError OverflowError RuntimeError NotImplementedError AttributeError StopIteration "
    "NotImplemented iter next".split()
)
BUILTIN_METHODS = set(
    "append clear copy count endswith extend find get index insert isalnum isalpha isdigit islower isspace isupper "
    "items join keys ljust lower lstrip partition pop remove replace reverse rfind rjust rpartition rsplit rstrip "
    "setdefault split splitlines startswith strip update upper values zfill bit_length title capitalize swapcase "
    "casefold center expandtabs removeprefix removesuffix rindex isascii isdecimal isnumeric istitle isidentifier "
    "isprintable translate add discard sort".split()
)
METHODS_OF_FIRST_LIST = set(
    "append clear copy count endswith extend find get index insert isalnum isalpha isdigit islower isspace isupper "
    "items join keys ljust lower lstrip partition pop remove replace reverse rfind rjust rpartition rsplit rstrip "
    "setdefault split splitlines startswith strip update upper values zfill bit_length add discard".split()
)
ATTRIBUTES_LIKE_METHODS = set("count index title find get join lower upper split strip copy add".split())
CLASS_NAME = ("__class__", "__name__")
DUNDERS = {"__init__", "__eq__", "__repr__", "__str__", "__len__", "__enter__", "__exit__", "__call__", "__iter__"}
NOWHERE = set(
    "register mro elements open input law version_info with_traceback add_note".split()
)
NOT_AS_NAMES = set(
    "attrgetter breakpoint builtins compile copyright credits delattr dir eval exec exit gc getattr globals hasattr "
    "help id importlib license locals methodcaller os quit setattr super type vars sys".split()
)
WORDS_NOWHERE = set(
    "typing typing_extensions enum Enum IntEnum StrEnum Flag IntFlag Generic Protocol ABC ABCMeta namedtuple "
    "NamedTuple TypedDict TYPE_CHECKING abstractmethod".split()
)
BAD_STARTS = ("_wall", "_pe_", "_dcw_", "_enum_", "_cm_", "_twin_re_", "_lay_", "_law_", "_stub_", "_sre", "_WallAttr")
BAD_NAMES = r"(_cold|_tuplegetter|_outside|_record|_written_out|_member_names)[0-9_]*"
BAD_FILES = {"test", "tests", "testing", "site", "conftest", "sitecustomize", "usercustomize", "heapq", "math",
             "itertools"}
KEYWORDS_OF_BUILTINS = {"sorted": {"key", "reverse"}, "min": {"key", "default"}, "max": {"key", "default"},
                        "sum": {"start"}, "enumerate": {"start"}, "zip": {"strict"}}
FILES = sorted(PACKAGE.glob("**/*.py"))
TEXTS = {path: path.read_text(encoding="utf-8") for path in FILES}
TREES = {path: ast.parse(text) for path, text in TEXTS.items()}
NATIVE_NAMES = set()
for native in (str, int, list, dict, set, bytes):
    NATIVE_NAMES.update(dir(native))


def functions(tree):
    return [node for node in ast.walk(tree) if isinstance(node, ast.FunctionDef)]


def classes(tree):
    return [node for node in tree.body if isinstance(node, ast.ClassDef)]


def params(function):
    args = function.args
    rows = args.posonlyargs + args.args + args.kwonlyargs
    return [row.arg for row in rows + [row for row in (args.vararg, args.kwarg) if row is not None]]


def stored_names(node):
    return [part.id for part in ast.walk(node) if isinstance(part, ast.Name) and isinstance(part.ctx, ast.Store)]


def handler_names(node):
    return [part.name for part in ast.walk(node) if isinstance(part, ast.ExceptHandler) and part.name]


def module_names(tree):
    names = []
    for node in tree.body:
        if isinstance(node, ast.ImportFrom):
            names.extend(alias.asname or alias.name for alias in node.names)
        elif isinstance(node, (ast.FunctionDef, ast.ClassDef)):
            names.append(node.name)
        elif isinstance(node, ast.Assign):
            names.extend(stored_names(node))
    return names


def local_names(function):
    return params(function) + stored_names(function) + handler_names(function)


def module_of(path):
    return "loopyard." + path.stem if path.stem != "__init__" else "loopyard"


def imports(tree):
    return [node for node in ast.walk(tree) if isinstance(node, (ast.ImportFrom, ast.Import))]


class LanguageTest(unittest.TestCase):
    def assert_none(self, found):
        self.assertEqual([], list(found))

    def wrong(self, holds):
        """The places of all nodes of which something holds, as texts."""
        return [
            f"{path.name}:{getattr(node, 'lineno', 0)}"
            for path, tree in TREES.items() for node in ast.walk(tree) if holds(node)
        ]

    def test_files(self):
        self.assertTrue((PACKAGE / "__init__.py").exists())
        self.assertLessEqual(len(FILES), 100)
        for path in PACKAGE.iterdir():
            if path.name == "__pycache__":
                continue
            self.assertEqual(".py", path.suffix, path)
            self.assertRegex(path.name, r"^([a-z][a-z0-9_]*|__init__)\.py$")
            self.assertFalse(path.stem in BAD_FILES or path.stem in dir(builtins), path)
            self.assertFalse(path.stem.startswith(("test_", "law_")), path)

    def test_lengths(self):
        for path, text in TEXTS.items():
            lines = text.split("\n")
            self.assertLessEqual(len(text.splitlines()), 399, path)
            self.assert_none(f"{path.name}:{at}" for at, line in enumerate(lines, 1) if len(line) > 120)
            for function in functions(TREES[path]):
                self.assertLessEqual(function.end_lineno - function.lineno + 1, 40, f"{path}: {function.name}")

    def test_characters(self):
        for path, text in TEXTS.items():
            self.assert_none(sign for sign in text if sign != "\n" and not " " <= sign <= "~")

    def test_imports(self):
        for path, tree in TREES.items():
            for node in imports(tree):
                self.assertIsInstance(node, ast.ImportFrom, path)
                self.assertIn(node, tree.body)
                source = PACKAGE / (node.module.split(".", 1)[1] + ".py")
                self.assertTrue(node.level == 0 and node.module.startswith("loopyard."), path)
                defined = [
                    part.name for part in TREES[source].body if isinstance(part, (ast.FunctionDef, ast.ClassDef))
                ] + [name for part in TREES[source].body if isinstance(part, ast.Assign) for name in stored_names(part)]
                for alias in node.names:
                    self.assertIn(alias.name, defined, f"{path}: {node.module}")
                    self.assertIsNone(alias.asname, path)
                used = {part.id for part in ast.walk(tree) if isinstance(part, ast.Name)}
                self.assert_none(alias.name for alias in node.names if alias.name not in used)

    def test_imports_do_not_go_round(self):
        follows = {module_of(path): {node.module for node in imports(tree)} for path, tree in TREES.items()}
        done = []
        while follows:
            free = sorted(name for name, others in follows.items() if not others - set(done))
            self.assertTrue(free, f"imports go round among {sorted(follows)}")
            done.extend(free)
            for name in free:
                del follows[name]

    def test_module_level(self):
        plain = (ast.Constant, ast.List, ast.Tuple, ast.Dict, ast.Name, ast.Load, ast.UnaryOp, ast.USub)
        for path, tree in TREES.items():
            known = []
            seen_code = False
            for node in tree.body:
                if isinstance(node, ast.ImportFrom):
                    self.assertFalse(seen_code, path)
                elif isinstance(node, (ast.FunctionDef, ast.ClassDef)):
                    seen_code = True
                    if isinstance(node, ast.FunctionDef):
                        known.append(node.name)
                elif isinstance(node, ast.Assign):
                    seen_code = True
                    self.assertTrue(len(node.targets) == 1 and isinstance(node.targets[0], ast.Name), path)
                    for part in ast.walk(node.value):
                        self.assertIsInstance(part, plain, f"{path.name}:{node.lineno}")
                        if isinstance(part, ast.Name):
                            self.assertIn(part.id, known, f"{path.name}:{node.lineno}")
                else:
                    self.assertTrue(isinstance(node, ast.Expr) and isinstance(node.value, ast.Constant), path)
            names = module_names(tree)
            self.assertEqual(len(names), len(set(names)), path)

    def test_statements(self):
        barred = (
            ast.Global, ast.AsyncFor, ast.AsyncFunctionDef, ast.AsyncWith, ast.Await, ast.With, ast.Yield,
            ast.YieldFrom, ast.GeneratorExp, ast.AnnAssign, ast.Lambda, ast.Match, ast.NamedExpr, ast.Set,
            ast.SetComp, ast.Import, ast.Div, ast.MatMult, ast.Pow, ast.Nonlocal, ast.Delete,
        )
        allowed_deletes = (ast.Subscript,)
        found = self.wrong(lambda node: isinstance(node, barred) and not (
            isinstance(node, ast.Delete) and all(isinstance(part, allowed_deletes) for part in node.targets)))
        self.assert_none(found)
        self.assert_none(self.wrong(lambda node: isinstance(node, ast.Constant) and isinstance(node.value, float)))
        self.assert_none(self.wrong(lambda node: isinstance(node, ast.Constant) and node.value is Ellipsis))

    def test_functions_and_classes(self):
        for path, tree in TREES.items():
            for function in functions(tree):
                where = f"{path.name}: {function.name}"
                self.assertIsNone(function.returns, where)
                self.assertTrue(all(row.annotation is None for row in ast.walk(function.args)
                                    if isinstance(row, ast.arg)), where)
                for decorator in function.decorator_list:
                    self.assertEqual("property", getattr(decorator, "id", None), where)
                for default in function.args.defaults + [row for row in function.args.kw_defaults if row]:
                    parts = [part for part in ast.walk(default) if not isinstance(part, ast.Load)]
                    self.assertTrue(all(isinstance(part, (ast.Constant, ast.Tuple)) for part in parts), where)
            for row in [node for node in ast.walk(tree) if isinstance(node, ast.ClassDef)]:
                self.assertIn(row, tree.body)
                self.assertEqual([], row.decorator_list)
                self.assertLessEqual(len(row.bases), 1)
                names = [part.name for part in row.body if isinstance(part, ast.FunctionDef)]
                self.assertEqual(len(names), len(set(names)), row.name)
                self.assert_none(name for name in names if name.startswith("__") and name not in DUNDERS)
                for part in row.body:
                    docstring = isinstance(part, ast.Expr) and isinstance(part.value, ast.Constant)
                    self.assertTrue(docstring or isinstance(part, (ast.FunctionDef, ast.Assign)), row.name)

    def test_class_names_are_read_off_objects(self):
        for path, tree in TREES.items():
            inner = {id(node.value) for node in ast.walk(tree)
                     if isinstance(node, ast.Attribute) and node.attr == "__name__"}
            for node in ast.walk(tree):
                if isinstance(node, ast.Attribute) and node.attr in CLASS_NAME:
                    where = f"{path.name}:{node.lineno}"
                    self.assertIsInstance(node.ctx, ast.Load, where)
                    if node.attr == "__name__":
                        self.assertEqual("__class__", getattr(node.value, "attr", None), where)
                    else:
                        self.assertIn(id(node), inner, where)
                        self.assertIsInstance(node.value, (ast.Name, ast.Attribute), where)

    def test_names(self):
        for path, tree in TREES.items():
            for node in ast.walk(tree):
                for name in self.names_in(node):
                    where = f"{path.name}:{getattr(node, 'lineno', 0)}: {name}"
                    self.assertRegex(name, r"^(_?[A-Za-z][A-Za-z0-9_]*|_|__init__)$", where)
                    self.assertFalse(name.startswith(BAD_STARTS) or re.fullmatch(BAD_NAMES, name), where)
                    self.assertFalse(keyword.iskeyword(name) or name in NOWHERE, where)
                if isinstance(node, ast.Name) and node.id == "_":
                    self.assertIsInstance(node.ctx, ast.Store)

    def names_in(self, node):
        if isinstance(node, ast.Name):
            return [node.id]
        if isinstance(node, ast.Attribute):
            return [] if node.attr in CLASS_NAME else [node.attr]
        if isinstance(node, ast.arg):
            return [node.arg]
        if isinstance(node, (ast.FunctionDef, ast.ClassDef)):
            return [node.name]
        return []

    def test_one_meaning_for_each_name(self):
        all_builtins = set(dir(builtins))
        for path, tree in TREES.items():
            tops = module_names(tree)
            self.assert_none(name for name in tops if name in all_builtins or name in NOT_AS_NAMES)
            imported = [alias.name for node in imports(tree) for alias in node.names]
            own_classes = [row.name for row in classes(tree)]
            for function in functions(tree):
                names = set(local_names(function))
                where = f"{path.name}: {function.name}"
                self.assertFalse(names & (all_builtins | NOT_AS_NAMES), where)
                self.assertFalse(names & set(imported + own_classes), where)
                for part in ast.walk(function):
                    if isinstance(part, ast.Name) and isinstance(part.ctx, ast.Load):
                        known = part.id in names or part.id in tops or part.id in ALLOWED_BUILTINS
                        self.assertTrue(known or part.id == "property", f"{where}: {part.id}")

    def test_words(self):
        for path, text in TEXTS.items():
            for token in tokenize.generate_tokens(io.StringIO(text).readline):
                if token.type == tokenize.COMMENT or token.type == tokenize.STRING and '"""' in token.string:
                    continue
                words = set(re.findall(r"[A-Za-z_][A-Za-z0-9_]*", token.string))
                self.assertFalse(words & WORDS_NOWHERE, f"{path.name}: {token.string}")
                if token.type != tokenize.STRING:
                    self.assertNotIn("type", words, path)
                for part in ("dataclass", "overload", "contextmanager"):
                    self.assertNotIn(part, token.string, path)
            self.assertNotRegex(text, r"\b(_wall|_WallAttr)\b", path)

    def test_strings(self):
        for path, tree in TREES.items():
            for node in ast.walk(tree):
                if isinstance(node, ast.Constant) and isinstance(node.value, str):
                    where = f"{path.name}:{node.lineno}"
                    self.assertNotIn("%", node.value, where)
                    self.assertFalse(node.value.endswith(("._", ".__")), where)
                    self.assertFalse(node.value.startswith("__") and node.value.endswith("__"), where)
            for token in tokenize.generate_tokens(io.StringIO(TEXTS[path]).readline):
                if token.type == tokenize.STRING:
                    self.assert_none(re.findall(r"\\[^nt\\\"']", token.string))

    def test_own_methods_and_attributes(self):
        methods, attributes, values = set(), set(), set()
        for tree in TREES.values():
            for row in classes(tree):
                methods.update(part.name for part in row.body if isinstance(part, ast.FunctionDef))
                for part in row.body:
                    if isinstance(part, ast.Assign):
                        values.update(stored_names(part))
            for node in ast.walk(tree):
                if isinstance(node, ast.Attribute) and isinstance(node.ctx, ast.Store):
                    self.assertIsInstance(node.value, ast.Name, f"line {node.lineno}: {node.attr}")
                    attributes.add(node.attr)
        self.assertFalse(methods & attributes)
        self.assertFalse(values & (methods | attributes))
        self.assert_none(name for name in methods if name in NATIVE_NAMES - METHODS_OF_FIRST_LIST - DUNDERS)
        self.assert_none(name for name in attributes if name in NATIVE_NAMES - ATTRIBUTES_LIKE_METHODS)
        self.assert_none(name for name in attributes if name in {"args", "format", "hex", "fromhex", "sort"})
        self.assert_none(name for name in methods if name in ALLOWED_BUILTINS or name in NOT_AS_NAMES)
        for path, tree in TREES.items():
            called = {id(node.func) for node in ast.walk(tree) if isinstance(node, ast.Call)}
            for node in ast.walk(tree):
                if isinstance(node, ast.Attribute) and isinstance(node.ctx, ast.Load):
                    where = f"{path.name}:{node.lineno}: {node.attr}"
                    if id(node) in called:
                        self.assertIn(node.attr, methods | BUILTIN_METHODS, where)
                    else:
                        self.assertIn(node.attr, attributes | values | {"routines", "outside", *CLASS_NAME}, where)

    def test_errors(self):
        for path, tree in TREES.items():
            for node in ast.walk(tree):
                where = f"{path.name}:{getattr(node, 'lineno', 0)}"
                if isinstance(node, ast.ExceptHandler):
                    self.assertIn(getattr(node.type, "id", None), {"Thrown", "Stuck", "KeyError"}, where)
                if isinstance(node, ast.Raise) and node.exc is not None:
                    self.assertIsInstance(node.exc, ast.Call, where)
                    self.assertTrue(node.exc.func.id[0].isupper(), where)
                    self.assertIsNone(node.cause, where)
                if isinstance(node, ast.Try):
                    for part in node.finalbody:
                        self.assertIsInstance(part, ast.Assign, where)

    def test_comparing_with_is(self):
        def is_wrong(node):
            if not isinstance(node, ast.Compare):
                return False
            sides = [node.left] + node.comparators
            return any(isinstance(sign, (ast.Is, ast.IsNot)) for sign in node.ops) and not any(
                isinstance(side, ast.Constant) and side.value in (None, True, False) for side in sides)
        self.assert_none(self.wrong(is_wrong))

    def test_calls_of_builtins(self):
        for path, tree in TREES.items():
            called = {id(node.func) for node in ast.walk(tree) if isinstance(node, ast.Call)}
            bases = {id(base) for row in classes(tree) for base in row.bases}
            tested = {id(part) for node in ast.walk(tree) if isinstance(node, ast.Call)
                      and getattr(node.func, "id", "") == "isinstance" for part in ast.walk(node.args[1])}
            for node in ast.walk(tree):
                if isinstance(node, ast.Name) and node.id in ALLOWED_BUILTINS:
                    self.assertIn(id(node), called | bases | tested, f"{path.name}:{node.lineno}")
                if isinstance(node, ast.Call) and isinstance(node.func, ast.Name):
                    keys = {part.arg for part in node.keywords}
                    if node.func.id in ALLOWED_BUILTINS:
                        self.assertLessEqual(keys, KEYWORDS_OF_BUILTINS.get(node.func.id, set()), path)
                    self.assertNotIn(node.func.id, {"set", "frozenset", "bytes", "map"}, path)
                if isinstance(node, ast.Call) and getattr(node.func, "attr", "") in BUILTIN_METHODS:
                    self.assertEqual([], node.keywords, f"{path.name}:{node.lineno}")

    def test_classes_are_called_or_tested_for(self):
        own = {row.name for tree in TREES.values() for row in classes(tree)}
        for path, tree in TREES.items():
            good = {id(base) for row in classes(tree) for base in row.bases}
            for node in ast.walk(tree):
                if isinstance(node, ast.Call):
                    good.add(id(node.func))
                    if getattr(node.func, "id", "") == "isinstance":
                        good.update(id(part) for part in ast.walk(node.args[1]))
                if isinstance(node, ast.Attribute) and node.attr == "__init__":
                    good.add(id(node.value))
                if isinstance(node, ast.ExceptHandler):
                    good.add(id(node.type))
            for node in ast.walk(tree):
                if isinstance(node, ast.Name) and node.id in own:
                    self.assertIn(id(node), good, f"{path.name}:{node.lineno}: {node.id}")

    def test_calls_pass_what_functions_take(self):
        functions_of = {}
        for tree in TREES.values():
            for node in tree.body:
                if isinstance(node, ast.FunctionDef):
                    functions_of.setdefault(node.name, []).append(node.args)
                if isinstance(node, ast.ClassDef):
                    made = [part.args for part in node.body if getattr(part, "name", "") == "__init__"]
                    functions_of.setdefault(node.name, []).extend(made)
        for path, tree in TREES.items():
            imported = {alias.name for node in imports(tree) for alias in node.names} | set(module_names(tree))
            for node in ast.walk(tree):
                name = getattr(getattr(node, "func", None), "id", None)
                if name not in imported or len(functions_of.get(name, [])) != 1:
                    continue
                if any(isinstance(part, ast.Starred) for part in node.args) or node.keywords:
                    continue
                args = functions_of[name][0]
                most = len(args.args) - (1 if args.args and args.args[0].arg == "self" else 0)
                where = f"{path.name}:{node.lineno}: {name}"
                self.assertGreaterEqual(len(node.args), most - len(args.defaults), where)
                if args.vararg is None:
                    self.assertLessEqual(len(node.args), most, where)

    def test_views_are_used_on_the_spot(self):
        lazy = {"zip", "enumerate", "reversed", "range"}
        takers = {"list", "tuple", "dict", "sorted", "sum", "any", "all", "enumerate", "zip"}
        for path, tree in TREES.items():
            good = set()
            for node in ast.walk(tree):
                if isinstance(node, (ast.For, ast.comprehension)):
                    good.add(id(node.iter))
                if isinstance(node, ast.Call) and getattr(node.func, "id", "") in takers and node.args:
                    good.add(id(node.args[0]))
                if isinstance(node, ast.Call) and getattr(node.func, "id", "") == "reversed":
                    if getattr(getattr(node.args[0], "func", None), "id", "") == "range":
                        good.add(id(node.args[0]))
            for node in ast.walk(tree):
                if isinstance(node, ast.Call):
                    is_view = getattr(node.func, "attr", "") in {"items", "keys", "values"}
                    if is_view or getattr(node.func, "id", "") in lazy:
                        self.assertIn(id(node), good, f"{path.name}:{node.lineno}")

    def test_modules_keep_no_state(self):
        tables = {}
        for path, tree in TREES.items():
            for node in tree.body:
                if isinstance(node, ast.Assign) and isinstance(node.value, (ast.Dict, ast.List)):
                    tables[node.targets[0].id] = path.name
                if isinstance(node, ast.Assign):
                    inner = [part for part in ast.walk(node.value) if part is not node.value]
                    self.assertFalse(any(isinstance(part, (ast.Dict, ast.List)) for part in inner), path)
        for path, tree in TREES.items():
            good = set()
            for node in ast.walk(tree):
                if isinstance(node, ast.Subscript) and isinstance(node.ctx, ast.Load):
                    good.add(id(node.value))
                if isinstance(node, ast.Compare):
                    good.update(id(part) for part in node.comparators)
                if isinstance(node, ast.Call) and getattr(node.func, "id", "") in {"dict", "list", "len", "sorted"}:
                    good.add(id(node.args[0]))
                if isinstance(node, ast.Call) and getattr(node.func, "attr", "") == "get":
                    good.add(id(node.func.value))
            for node in ast.walk(tree):
                if isinstance(node, ast.Name) and isinstance(node.ctx, ast.Load) and node.id in tables:
                    self.assertIn(id(node), good, f"{path.name}:{node.lineno}: {node.id}")


if __name__ == "__main__":
    unittest.main()
