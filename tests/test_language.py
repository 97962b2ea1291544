"""The package keeps to its part of Python: what can be seen of the rules without running it."""

import ast
import builtins
import pathlib
import re
import unittest

PACKAGE = pathlib.Path(__file__).resolve().parent.parent / "marathonday"

NODES = """
    Module Expr Constant ImportFrom alias FunctionDef arguments arg Return ClassDef Assign AugAssign Name Load Store
    Attribute Subscript Slice Tuple List Dict Call keyword If While For Break Continue Pass Raise Try ExceptHandler
    BinOp UnaryOp BoolOp Compare IfExp Lambda ListComp comprehension JoinedStr FormattedValue
    Add Sub Mult FloorDiv Mod Pow BitAnd BitOr BitXor LShift RShift Invert Not USub UAdd And Or
    Eq NotEq Lt LtE Gt GtE Is IsNot In NotIn
""".split()

OWN_NAMES = """
    len range enumerate zip min max sum abs sorted reversed int str bool list tuple dict set frozenset isinstance
    ord repr any all divmod Exception ValueError TypeError KeyError IndexError LookupError ZeroDivisionError
    ArithmeticError OverflowError RuntimeError NotImplementedError AttributeError StopIteration
""".split()

METHODS = """
    append clear copy count endswith extend find get index insert isalnum isalpha isdigit islower isspace isupper
    items join keys ljust lower lstrip partition pop remove replace reverse rfind rjust rpartition rsplit rstrip
    setdefault split splitlines startswith strip update upper values zfill bit_length
""".split()

WORDS = """
    type typing typing_extensions enum Enum IntEnum StrEnum Flag IntFlag Generic Protocol ABC ABCMeta namedtuple
    NamedTuple TypedDict TYPE_CHECKING abstractmethod
""".split()

NOWHERE = "register mro elements open input version_info with_traceback add_note format format_map".split()

NOT_AS_NAMES = """
    attrgetter breakpoint builtins compile copyright credits delattr dir eval exec exit gc getattr globals hasattr help
    id importlib license locals methodcaller os quit setattr super type vars sys __name__ chr set frozenset
""".split()

KEYWORDS = {"sorted": ["key", "reverse"], "min": ["key", "default"], "max": ["key", "default"], "sum": ["start"],
            "enumerate": ["start"], "zip": ["strict"]}

CHANGING = "append clear extend insert pop remove reverse setdefault update".split()

LAZY = "zip enumerate reversed range".split()
WALKERS = "list tuple dict sorted sum any all enumerate zip min max".split()


def sources():
    return sorted(PACKAGE.rglob("*.py"))


def trees():
    return [(path, ast.parse(path.read_text())) for path in sources()]


def called(node):
    """The plain name that a call calls, or nothing."""
    if isinstance(node, ast.Call) and isinstance(node.func, ast.Name):
        return node.func.id
    return ""


def bound_names(tree):
    """Every name that is given to a parameter, a local, a function or a class."""
    for node in ast.walk(tree):
        if isinstance(node, ast.arg):
            yield node.arg
        elif isinstance(node, ast.Name) and isinstance(node.ctx, ast.Store):
            yield node.id
        elif isinstance(node, (ast.FunctionDef, ast.ClassDef)):
            yield node.name
        elif isinstance(node, ast.Attribute) and isinstance(node.ctx, ast.Store):
            yield node.attr


class Files(unittest.TestCase):
    def test_nothing_else_lies_there(self):
        for path in PACKAGE.rglob("*"):
            if "__pycache__" not in path.parts:
                self.assertRegex(path.name, r"^([a-z][a-z0-9_]*|__init__|__main__)\.py$")

    def test_size_and_signs(self):
        for path in sources():
            text = path.read_bytes().decode("ascii")
            lines = text.split("\n")
            self.assertLessEqual(len(lines), 400, path)
            self.assertLessEqual(max(len(line) for line in lines), 120, path)
            self.assertRegex(text, r"\A[ -~\n]*\Z", path)

    def test_words(self):
        for path in sources():
            words = re.findall(r"\w+", path.read_text())
            self.assertEqual([word for word in words if word in WORDS], [], path)
            self.assertNotRegex(path.read_text(), "dataclass|overload|contextmanager")


class Code(unittest.TestCase):
    def test_kinds_of_code(self):
        for path, tree in trees():
            for node in ast.walk(tree):
                self.assertIn(node.__class__.__name__, NODES, (path, getattr(node, "lineno", 0)))

    def test_values(self):
        for path, tree in trees():
            for node in ast.walk(tree):
                if isinstance(node, ast.Constant):
                    self.assertIn(node.value.__class__, (int, str, bool, None.__class__), (path, node.lineno))
                if isinstance(node, ast.Assign):
                    self.assertEqual(len(node.targets), 1, (path, node.lineno))
                if isinstance(node, (ast.For, ast.While)):
                    self.assertEqual(node.orelse, [], (path, node.lineno))
                if isinstance(node, ast.ListComp):
                    self.assertEqual(len(node.generators), 1, (path, node.lineno))
                    self.assertLessEqual(len(node.generators[0].ifs), 1, (path, node.lineno))

    def test_functions(self):
        for path, tree in trees():
            for node in ast.walk(tree):
                if isinstance(node, ast.FunctionDef):
                    self.assertLessEqual(node.end_lineno - node.lineno + 1, 40, (path, node.name))
                    self.assertEqual(node.decorator_list, [], (path, node.name))
                    args = node.args
                    self.assertFalse(args.vararg or args.kwarg or args.kwonlyargs or args.posonlyargs, node.name)

    def test_imports(self):
        for path, tree in trees():
            for node in ast.walk(tree):
                if isinstance(node, ast.ImportFrom):
                    self.assertIn(node, tree.body, path)
                    self.assertEqual(node.level, 0, path)
                    home = PACKAGE.parent / (node.module.replace(".", "/") + ".py")
                    own = [name.id for part in ast.parse(home.read_text()).body if isinstance(part, ast.Assign)
                           for name in part.targets]
                    own += [part.name for part in ast.parse(home.read_text()).body
                            if isinstance(part, (ast.FunctionDef, ast.ClassDef))]
                    for name in node.names:
                        self.assertIn(name.name, own, path)
                        self.assertIsNone(name.asname, path)
                        used = [part for part in ast.walk(tree) if isinstance(part, ast.Name) and part.id == name.name]
                        self.assertTrue(used, (path, name.name))

    def test_the_top_of_a_file(self):
        for path, tree in trees():
            self.assertTrue(ast.get_docstring(tree), path)
            for node in tree.body[1:]:
                self.assertIsInstance(node, (ast.ImportFrom, ast.FunctionDef, ast.ClassDef, ast.Assign), path)
            names = [name for node in tree.body for name in self.names_at_top(node)]
            self.assertEqual(len(names), len(set(names)), path)

    def names_at_top(self, node):
        if isinstance(node, ast.ImportFrom):
            return [name.name for name in node.names]
        if isinstance(node, ast.Assign):
            return [name.id for name in node.targets]
        return [node.name] if isinstance(node, (ast.FunctionDef, ast.ClassDef)) else []


class Names(unittest.TestCase):
    def test_plain_and_not_pythons_own(self):
        for path, tree in trees():
            for name in bound_names(tree):
                if name != "__init__":
                    self.assertRegex(name, r"^[A-Za-z][A-Za-z0-9_]*$", path)
                    self.assertFalse(hasattr(builtins, name), (path, name))
                    self.assertNotIn(name, NOWHERE, path)

    def test_no_local_is_called_like_an_import_or_a_class(self):
        for path, tree in trees():
            taken = [name for node in tree.body if isinstance(node, (ast.ImportFrom, ast.ClassDef))
                     for name in Code.names_at_top(self, node)]
            for node in ast.walk(tree):
                if isinstance(node, ast.FunctionDef):
                    self.assertEqual([name for name in bound_names(node) if name in taken], [], (path, node.name))

    def test_which_of_pythons_own_are_read(self):
        for path, tree in trees():
            for node in ast.walk(tree):
                if isinstance(node, ast.Name) and hasattr(builtins, node.id):
                    self.assertIn(node.id, OWN_NAMES, (path, node.lineno))

    def test_methods_are_listed_or_own(self):
        own = [node.name for path, tree in trees() for part in ast.walk(tree) if isinstance(part, ast.ClassDef)
               for node in part.body if isinstance(node, ast.FunctionDef)]
        for path, tree in trees():
            for node in ast.walk(tree):
                if isinstance(node, ast.Call) and isinstance(node.func, ast.Attribute):
                    self.assertIn(node.func.attr, METHODS + own, (path, node.lineno))

    def test_no_name_is_a_method_and_a_value(self):
        methods, values = set(), set()
        for path, tree in trees():
            for node in ast.walk(tree):
                if isinstance(node, ast.ClassDef):
                    methods |= {part.name for part in node.body if isinstance(part, ast.FunctionDef)}
                if isinstance(node, ast.Attribute) and isinstance(node.ctx, ast.Store):
                    values.add(node.attr)
        self.assertEqual(methods & values, set())
        for name in sorted(values):
            for kind in (str, int, list, dict, set, bytes, tuple):
                self.assertFalse(hasattr(kind, name), name)


class Walks(unittest.TestCase):
    def test_walked_on_the_spot(self):
        for path, tree in trees():
            fine = []
            for node in ast.walk(tree):
                if isinstance(node, (ast.For, ast.comprehension)):
                    fine.append(node.iter)
                if called(node) in WALKERS and node.args:
                    fine.append(node.args[0])
            for node in ast.walk(tree):
                if called(node) in LAZY:
                    self.assertIn(node, fine, (path, node.lineno))

    def test_is_stands_beside_none_alone(self):
        for path, tree in trees():
            for node in ast.walk(tree):
                if isinstance(node, ast.Compare) and isinstance(node.ops[0], (ast.Is, ast.IsNot)):
                    self.assertIsInstance(node.comparators[0], ast.Constant, (path, node.lineno))

    def test_what_a_loop_walks_is_not_changed_in_it(self):
        for path, tree in trees():
            for loop in ast.walk(tree):
                if isinstance(loop, ast.For):
                    walked = [node.id for node in ast.walk(loop.iter) if isinstance(node, ast.Name)]
                    for node in [part for row in loop.body for part in ast.walk(row)]:
                        self.assertNotIn(self.changed(node), walked, (path, loop.lineno))

    def changed(self, node):
        """The plain name of a list or dict that this changes, or nothing."""
        if isinstance(node, ast.Call) and isinstance(node.func, ast.Attribute) and node.func.attr in CHANGING:
            return getattr(node.func.value, "id", "")
        if isinstance(node, ast.Subscript) and isinstance(node.ctx, ast.Store):
            return getattr(node.value, "id", "")
        return ""


class Narrower(unittest.TestCase):
    def test_no_two_files_draw_from_one_another(self):
        drawn = {path.stem: [node.module.split(".")[1] for node in tree.body if isinstance(node, ast.ImportFrom)]
                 for path, tree in trees()}
        left = dict(drawn)
        while left:
            free = [name for name in left if not any(other in left for other in left[name])]
            self.assertTrue(free, left)
            left = {name: others for name, others in left.items() if name not in free}

    def test_lists_and_dicts_of_a_files_top_are_only_read(self):
        for path, tree in trees():
            tops = [name.id for other, part in trees() for node in part.body
                    if isinstance(node, ast.Assign) and isinstance(node.value, (ast.Dict, ast.List))
                    for name in node.targets]
            fine = [node.value for node in ast.walk(tree)
                    if isinstance(node, ast.Subscript) and isinstance(node.ctx, ast.Load)]
            fine += [node.comparators[0] for node in ast.walk(tree)
                     if isinstance(node, ast.Compare) and isinstance(node.ops[0], ast.In)]
            for node in ast.walk(tree):
                if isinstance(node, ast.Name) and isinstance(node.ctx, ast.Load) and node.id in tops:
                    self.assertIn(node, fine, (path, node.lineno))

    def test_names_that_are_not_used(self):
        for path, tree in trees():
            for node in ast.walk(tree):
                if isinstance(node, ast.Name):
                    self.assertNotIn(node.id, NOT_AS_NAMES, (path, node.lineno))
                if isinstance(node, ast.Attribute):
                    self.assertNotIn(node.attr, NOWHERE, (path, node.lineno))

    def test_keywords(self):
        for path, tree in trees():
            for node in ast.walk(tree):
                if isinstance(node, ast.Call):
                    for keyword in node.keywords:
                        self.assertIn(keyword.arg, KEYWORDS.get(called(node), []), (path, node.lineno))

    def test_texts_numbers_and_annotations(self):
        for path, tree in trees():
            for node in ast.walk(tree):
                if isinstance(node, ast.Constant) and isinstance(node.value, str):
                    self.assertNotIn("%", node.value, (path, node.lineno))
                self.assertNotIsInstance(node, (ast.Pow, ast.Try, ast.AnnAssign), path)
                if isinstance(node, ast.FunctionDef):
                    self.assertIsNone(node.returns, (path, node.name))
                if isinstance(node, ast.arg):
                    self.assertIsNone(node.annotation, (path, node.arg))

    def test_what_a_file_is_called(self):
        for path in sources():
            self.assertTrue(path.stem == "__init__" or not hasattr(builtins, path.stem), path)
            self.assertNotIn(path.stem, WORDS + ["test", "tests", "testing", "site", "conftest"], path)

    def test_init_gives_back_nothing(self):
        for path, tree in trees():
            for node in ast.walk(tree):
                if isinstance(node, ast.FunctionDef) and node.name == "__init__":
                    self.assertFalse([part for part in ast.walk(node) if isinstance(part, ast.Return)], path)


if __name__ == "__main__":
    unittest.main()
