"""Those rules of ../shared/LANGUAGE.md that can be told from the code alone."""

import ast
import builtins
import pathlib
import re
import unittest

FOLDER = pathlib.Path(__file__).resolve().parent.parent / "trustedpages"
BUILTINS = set(
    "len range enumerate zip min max sum abs sorted reversed int str bool bytes list tuple dict set isinstance ord "
    "repr any all divmod iter next map super property staticmethod classmethod Exception ValueError TypeError "
    "KeyError IndexError LookupError ZeroDivisionError ArithmeticError OverflowError RuntimeError "
    "NotImplementedError AttributeError StopIteration NotImplemented".split())
METHODS = set(
    "append clear copy count endswith extend find get index insert isalnum isalpha isdigit islower isspace isupper "
    "items join keys ljust lower lstrip partition pop remove replace reverse rfind rjust rpartition rsplit rstrip "
    "setdefault split splitlines startswith strip update upper values zfill bit_length title capitalize swapcase "
    "casefold center expandtabs removeprefix removesuffix rindex isascii isdecimal isnumeric istitle isidentifier "
    "isprintable encode decode hex fromhex to_bytes from_bytes add discard".split())
CHANGING = set("append clear extend insert pop remove reverse setdefault update sort add discard".split())
SIGNS = set(
    "lt le gt ge ne add sub mul floordiv mod pow and or xor lshift rshift radd rsub rmul rfloordiv rmod rand ror rxor "
    "rlshift rrshift neg pos invert abs bool contains getitem".split())
IN_PLACE = set("iadd isub imul ifloordiv imod iand ior ixor ilshift irshift setitem".split())
SPECIAL = SIGNS | IN_PLACE | set("init eq repr str len enter exit call iter".split())
PURE = SIGNS | {"eq", "repr", "str", "len"}
STATEMENTS = (
    ast.FunctionDef, ast.ClassDef, ast.Assign, ast.AugAssign, ast.Expr, ast.If, ast.While, ast.For, ast.Return,
    ast.Break, ast.Continue, ast.Pass, ast.Raise, ast.Assert, ast.Delete, ast.Nonlocal, ast.Match, ast.With, ast.Try,
    ast.ImportFrom)
CATCHABLE = {"KeyError", "ZeroDivisionError", "ValueError", "LookupError", "IndexError"}
BARRED = re.compile(
    r"\b(typing|typing_extensions|enum|Enum|IntEnum|StrEnum|Flag|IntFlag|Generic|Protocol|ABC|ABCMeta|namedtuple|"
    r"NamedTuple|TypedDict|TYPE_CHECKING|abstractmethod|frozenset)\b"
    r"|\(type\)|Meta|metaclass=|dataclass|overload|contextmanager|_wall")
UNUSED = set(
    "register mro elements open input law version_info with_traceback add_note attrgetter breakpoint compile "
    "delattr dir eval exec exit gc getattr globals hasattr help id locals os quit setattr type vars chr".split())


def files():
    """Each file of the package, with its text and its tree."""
    for path in sorted(FOLDER.glob("*.py")):
        text = path.read_text(encoding="utf-8")
        yield path.stem, text, ast.parse(text)


def nodes(kind):
    """Each node of this kind, with the name of its file."""
    for name, _, tree in files():
        for node in ast.walk(tree):
            if isinstance(node, kind):
                yield name, node


def functions():
    """The functions and methods of the package by name: several may have one name."""
    found = {}
    for _, node in nodes(ast.FunctionDef):
        found.setdefault(node.name, []).append(node)
    return found


def own_calls(node, known):
    """The functions and methods that a function calls or reads as properties, by their names alone."""
    names = [child.func.id for child in ast.walk(node)
             if isinstance(child, ast.Call) and isinstance(child.func, ast.Name)]
    names += [child.attr for child in ast.walk(node) if isinstance(child, ast.Attribute) and child.attr != "__init__"]
    return [other for name in names if name in known for other in known[name]]


def is_setter(node):
    """True for the method that assigns a property."""
    return any(ast.unparse(part).endswith(".setter") for part in node.decorator_list)


def run_by_operators():
    """All that operators, properties, == and len() run, by names alone; creating an object runs its __init__."""
    known = functions()
    for _, node in nodes(ast.ClassDef):
        known[node.name] = [part for part in node.body if getattr(part, "name", "") == "__init__"]
    waiting = [node for name, found in known.items() for node in found if name.strip("_") in PURE
               or "property" in [ast.unparse(decorator) for decorator in node.decorator_list]]
    seen = []
    while waiting:
        node = waiting.pop()
        if node not in seen and not node.name.strip("_") in IN_PLACE and not is_setter(node):
            seen.append(node)
            waiting.extend(own_calls(node, known))
    return seen


def changes(node):
    """What a function changes that is not plainly its own."""
    made = [target.id for child in ast.walk(node) if isinstance(child, ast.Assign) for target in child.targets
            if isinstance(target, ast.Name) and isinstance(child.value, (ast.List, ast.ListComp))]
    for child in ast.walk(node):
        if isinstance(child, (ast.AugAssign, ast.Delete)):
            yield child
        if isinstance(child, (ast.Attribute, ast.Subscript)) and not isinstance(child.ctx, ast.Load):
            yield child
        if isinstance(child, ast.Call) and isinstance(child.func, ast.Attribute) and child.func.attr in CHANGING:
            if not (isinstance(child.func.value, ast.Name) and child.func.value.id in made):
                yield child


class LanguageTest(unittest.TestCase):
    def test_files(self):
        for path in FOLDER.iterdir():
            if path.name != "__pycache__":
                self.assertRegex(path.name, r"^[a-z_][a-z0-9_]*\.py$")

    def test_sizes_and_characters(self):
        for name, text, tree in files():
            self.assertLessEqual(len(text.split("\n")), 399, name)
            for line in text.split("\n"):
                self.assertRegex(line, r"^[ -~]{0,120}$", name)
            for node in ast.walk(tree):
                if isinstance(node, ast.FunctionDef):
                    self.assertLessEqual(node.end_lineno - node.lineno + 1, 40, node.name)

    def test_module_level(self):
        for name, _, tree in files():
            for at, node in enumerate(tree.body):
                docstring = at == 0 and isinstance(node, ast.Expr) and isinstance(node.value, ast.Constant)
                kinds = (ast.ImportFrom, ast.FunctionDef, ast.ClassDef, ast.Assign)
                self.assertTrue(docstring or isinstance(node, kinds), (name, node.lineno))
                if isinstance(node, ast.Assign):
                    self.assertFalse([part for part in ast.walk(node.value) if isinstance(part, ast.Call)], name)

    def test_imports(self):
        defined = {name: [node.name for node in tree.body if isinstance(node, (ast.FunctionDef, ast.ClassDef))]
                   + [part.id for node in tree.body if isinstance(node, ast.Assign) for part in node.targets]
                   for name, _, tree in files()}
        for name, node in nodes(ast.ImportFrom):
            self.assertTrue(node.module.startswith("trustedpages."), (name, node.module))
            for part in node.names:
                self.assertIn(part.name, defined[node.module.removeprefix("trustedpages.")], name)
                self.assertIsNone(part.asname)
        self.assertEqual(list(nodes(ast.Import)), [])

    def test_statements_and_values(self):
        for name, node in nodes((ast.stmt, ast.Constant, ast.BinOp)):
            if isinstance(node, ast.stmt):
                self.assertIsInstance(node, STATEMENTS, (name, node.lineno))
            if isinstance(node, ast.Constant):
                self.assertNotIsInstance(node.value, (float, complex), (name, node.lineno))
                self.assertFalse(isinstance(node.value, str) and chr(37) in node.value, (name, node.lineno))
            if isinstance(node, ast.BinOp):
                self.assertNotIsInstance(node.op, (ast.Div, ast.MatMult, ast.Pow), (name, node.lineno))

    def test_names(self):
        for name, node in nodes((ast.Name, ast.arg, ast.FunctionDef, ast.ClassDef)):
            word = getattr(node, "id", None) or getattr(node, "arg", None) or getattr(node, "name", None)
            self.assertNotIn(word, UNUSED, (name, node.lineno))
            self.assertFalse(isinstance(node, ast.ClassDef) and word.startswith("_"), (name, node.lineno))
            if word.startswith("__"):
                self.assertIn(word.strip("_"), SPECIAL, (name, node.lineno))
            elif hasattr(builtins, word):
                self.assertIn(word, BUILTINS, (name, node.lineno))
                self.assertIsInstance(getattr(node, "ctx", None), ast.Load, (name, node.lineno))

    def test_beginnings_of_names(self):
        for name, text, _ in files():
            for word in re.findall(r"[A-Za-z_][A-Za-z0-9_]*", text):
                self.assertNotRegex(word, r"^_(pe_|dcw_|enum_|cm_|twin_re_|lay_|law_|stub_|sre)", name)
                self.assertNotRegex(word, r"^_(cold|tuplegetter|outside|record|written_out|member_names)[0-9_]*$", name)

    def test_barred_words(self):
        for name, text, _ in files():
            self.assertIsNone(BARRED.search(text), name)

    def test_no_annotations(self):
        for name, node in nodes((ast.arg, ast.FunctionDef, ast.AnnAssign)):
            self.assertNotIsInstance(node, ast.AnnAssign, name)
            self.assertIsNone(getattr(node, "annotation", None) or getattr(node, "returns", None), name)

    def test_decorators(self):
        for name, node in nodes((ast.FunctionDef, ast.ClassDef)):
            for decorator in node.decorator_list:
                self.assertRegex(ast.unparse(decorator), r"^(property|staticmethod|classmethod|[a-z_]+\.setter)$", name)

    def test_methods_that_are_called(self):
        own = set(functions()) | {"__init__"}
        for name, node in nodes(ast.Call):
            if isinstance(node.func, ast.Attribute):
                self.assertIn(node.func.attr, METHODS | own, (name, node.lineno))

    def test_errors_that_are_caught(self):
        own = {node.name for _, node in nodes(ast.ClassDef)}
        for name, node in nodes(ast.ExceptHandler):
            self.assertIsNotNone(node.type, (name, node.lineno))
            parts = node.type.elts if isinstance(node.type, ast.Tuple) else [node.type]
            for part in parts:
                self.assertIn(part.id, CATCHABLE | own, (name, node.lineno))

    def test_what_is_sorted(self):
        # Where a class has an order, these take numbers and strings that can be told as such.
        for name, node in nodes(ast.Call):
            if isinstance(node.func, ast.Name) and node.func.id in ("sorted", "min", "max"):
                keys = [ast.unparse(part.value) for part in node.keywords if part.arg == "key"]
                plain = isinstance(node.args[0], ast.ListComp) and isinstance(node.args[0].elt, ast.Call) and (
                    ast.unparse(node.args[0].elt.func) in ("int", "len", "str", "repr", "ord"))
                self.assertTrue(plain or keys in (["str"], ["len"], ["int"]), (name, node.lineno))

    def test_what_stands_behind_a_star(self):
        for name, node in nodes(ast.Call):
            stars = [at for at, part in enumerate(node.args) if isinstance(part, ast.Starred)]
            behind = node.args[stars[0] + 1:] + [part.value for part in node.keywords] if stars else []
            for part in behind:
                self.assertRegex(ast.unparse(part), r"^[a-z_]+(\._[a-z]+)?$", (name, node.lineno))

    def test_what_an_exit_does(self):
        for name, node in nodes(ast.FunctionDef):
            if node.name == "__exit__":
                self.assertEqual([part.arg for part in node.args.args], ["self", "kind", "value", "trace"])
                for part in node.body:
                    self.assertIsInstance(part, ast.Assign, (name, part.lineno))
                    self.assertIsInstance(part.value, ast.Attribute, (name, part.lineno))
                    self.assertIsInstance(part.targets[0], ast.Attribute, (name, part.lineno))

    def test_classes_with_items_have_an_iter(self):
        for name, node in nodes(ast.ClassDef):
            methods = [part.name for part in node.body if isinstance(part, ast.FunctionDef)]
            self.assertTrue("__getitem__" not in methods or "__iter__" in methods, node.name)

    def test_attributes_are_no_methods(self):
        stored = {node.attr for _, node in nodes(ast.Attribute) if isinstance(node.ctx, ast.Store)}
        for name, node in nodes(ast.ClassDef):
            for part in node.body:
                if isinstance(part, ast.FunctionDef) and not is_setter(part):
                    getter = "property" in [ast.unparse(decorator) for decorator in part.decorator_list]
                    self.assertTrue(getter or part.name not in stored, (name, part.name))

    def test_locals_have_no_name_of_their_file(self):
        for name, _, tree in files():
            known = {node.name for node in tree.body if isinstance(node, (ast.FunctionDef, ast.ClassDef))}
            known |= {part.name for node in tree.body if isinstance(node, ast.ImportFrom) for part in node.names}
            for node in ast.walk(tree):
                if isinstance(node, ast.FunctionDef):
                    found = {part.arg for part in ast.walk(node) if isinstance(part, ast.arg)}
                    found |= {part.id for part in ast.walk(node) if isinstance(part, ast.Name)
                              and isinstance(part.ctx, ast.Store)}
                    self.assertEqual(found & known, set(), (name, node.name))

    def test_functions_have_names_of_their_own(self):
        found = [node.name for _, _, tree in files() for node in tree.body
                 if isinstance(node, (ast.FunctionDef, ast.ClassDef))]
        self.assertEqual(sorted(found), sorted(set(found)))

    def test_operators_change_nothing(self):
        for node in run_by_operators():
            if node.name != "__init__":
                self.assertEqual([ast.unparse(part) for part in changes(node)], [], node.name)

    def test_operators_call_nothing_that_an_object_holds(self):
        held = {node.attr for _, node in nodes(ast.Attribute) if isinstance(node.ctx, ast.Store)}
        for node in run_by_operators():
            given = {part.arg for part in ast.walk(node) if isinstance(part, ast.arg)}
            for part in ast.walk(node):
                if isinstance(part, ast.Call) and isinstance(part.func, ast.Attribute) and part.func.attr != "__init__":
                    self.assertNotIn(part.func.attr, held, (node.name, node.lineno))
                elif isinstance(part, ast.Call) and isinstance(part.func, ast.Name):
                    self.assertNotIn(part.func.id, given, (node.name, node.lineno))

    def test_what_operators_run_shares_no_name(self):
        known = functions()
        for node in run_by_operators():
            for other in own_calls(node, known):
                if not other.name.startswith("__") and not is_setter(other):
                    found = [part for part in known[other.name] if not is_setter(part)]
                    self.assertEqual(len(found), 1, (node.name, other.name))
