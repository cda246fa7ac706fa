"""The form of the package: those rules of the language subset that a short test can see."""

import ast
import re
import unittest
from pathlib import Path

PACKAGE = Path(__file__).resolve().parent.parent / "leastrim"
FILES = sorted(PACKAGE.rglob("*.py"))
BUILTINS = set("""len range enumerate zip min max sum abs sorted reversed int str bool bytes list tuple dict set
    frozenset isinstance ord repr any all divmod Exception ValueError TypeError KeyError IndexError LookupError
    ZeroDivisionError ArithmeticError OverflowError RuntimeError NotImplementedError NotImplemented""".split())
BARRED = re.compile(r"\b(type|typing|typing_extensions|enum|Enum|IntEnum|StrEnum|Flag|IntFlag|Generic|Protocol"
                    r"|ABC|ABCMeta|namedtuple|NamedTuple|TypedDict|TYPE_CHECKING|abstractmethod)\b"
                    r"|dataclass|overload|contextmanager")
METHODS = set("""append clear copy count endswith extend find get index insert items join keys pop remove replace
    reverse setdefault split startswith strip update values bit_length""".split())
NOT_NAMES = set("""register mro elements open input version_info with_traceback add_note attrgetter breakpoint builtins
    compile copyright credits delattr dir eval exec exit gc getattr globals hasattr help id importlib license locals
    methodcaller os quit setattr super type vars sys hash map filter next round iter object print pow hex oct bin
    slice format property chr float complex""".split())
ON_THE_SPOT = {"zip", "enumerate", "reversed", "range", "items", "keys", "values"}
TAKERS = {"list", "tuple", "dict", "sorted", "sum", "any", "all", "min", "max", "enumerate", "zip", "reversed"}


def called(node):
    """The name of what is called, of a function or of a method."""
    return node.func.attr if isinstance(node.func, ast.Attribute) else node.func.id


def looped_over(tree):
    """Everything that stands behind the in of a loop, or is handed to what goes through it at once."""
    found = []
    for node in ast.walk(tree):
        if isinstance(node, (ast.For, ast.comprehension)):
            found.append(node.iter)
        elif isinstance(node, ast.Call) and called(node) in TAKERS:
            found += node.args
    return found


def defined_in(path):
    """The names that a file of the package binds at its own level, imports left out."""
    names = []
    for node in ast.parse(path.read_text(encoding="utf-8")).body:
        if isinstance(node, (ast.FunctionDef, ast.ClassDef)):
            names.append(node.name)
        elif isinstance(node, ast.Assign):
            names += [target.id for target in node.targets]
    return names


def bound_names(tree):
    """Every name that is bound anywhere in a file."""
    names = set()
    for node in ast.walk(tree):
        if isinstance(node, (ast.FunctionDef, ast.ClassDef)):
            names.add(node.name)
        elif isinstance(node, ast.arg):
            names.add(node.arg)
        elif isinstance(node, ast.Name) and not isinstance(node.ctx, ast.Load):
            names.add(node.id)
        elif isinstance(node, ast.ImportFrom):
            names.update(alias.asname or alias.name for alias in node.names)
    return names


class Form(unittest.TestCase):
    def each(self):
        self.assertTrue(FILES)
        for path in FILES:
            with self.subTest(file=path.name):
                text = path.read_text(encoding="utf-8")
                yield path, text, ast.parse(text)

    def test_the_folder_holds_nothing_else(self):
        others = [path for path in PACKAGE.rglob("*")
                  if path.suffix != ".py" and "__pycache__" not in path.parts and not path.is_dir()]
        self.assertEqual(others, [])
        self.assertTrue((PACKAGE / "__init__.py").is_file())

    def test_signs_lines_and_words(self):
        for path, text, tree in self.each():
            self.assertIsNone(re.search(r"[^\n -~]", text))
            self.assertLessEqual(len(text.splitlines()), 400)
            self.assertLessEqual(max(map(len, text.splitlines()), default=0), 120)
            self.assertIsNone(BARRED.search(text))

    def test_functions_are_short(self):
        for path, text, tree in self.each():
            for node in ast.walk(tree):
                if isinstance(node, ast.FunctionDef):
                    self.assertLessEqual(node.end_lineno - node.lineno + 1, 40, node.name)

    def test_imports_are_of_the_package_only(self):
        for path, text, tree in self.each():
            for node in ast.walk(tree):
                self.assertNotIsInstance(node, ast.Import)
                if isinstance(node, ast.ImportFrom):
                    self.assertIn(node, tree.body)
                    self.assertEqual(node.level, 0)
                    self.assertTrue(node.module.startswith("leastrim."), node.module)

    def test_names_are_plain_and_known(self):
        for path, text, tree in self.each():
            bound = bound_names(tree)
            self.assertEqual([name for name in bound if name.startswith("_") and name != "__init__"], [])
            self.assertEqual(sorted(bound & BUILTINS), [])
            read = {node.id for node in ast.walk(tree) if isinstance(node, ast.Name)}
            self.assertEqual(sorted(read - bound - BUILTINS), [])

    def test_nothing_with_a_point_and_no_division(self):
        for path, text, tree in self.each():
            for node in ast.walk(tree):
                self.assertNotIsInstance(node, (ast.Div, ast.Global, ast.AsyncFunctionDef))
                self.assertFalse(isinstance(node, ast.Constant) and isinstance(node.value, (float, complex)))

    def test_files_hold_only_imports_plain_values_functions_and_classes(self):
        for path, text, tree in self.each():
            for at, node in enumerate(tree.body):
                if isinstance(node, ast.Assign):
                    self.assertEqual(len(node.targets), 1)
                    ast.literal_eval(node.value)
                elif isinstance(node, ast.Expr):
                    self.assertEqual(at, 0)
                    self.assertIsInstance(node.value.value, str)
                else:
                    self.assertIsInstance(node, (ast.ImportFrom, ast.FunctionDef, ast.ClassDef))

    def test_each_name_is_bound_once_and_imported_from_where_it_is_defined(self):
        for path, text, tree in self.each():
            names = defined_in(path)
            for node in tree.body:
                if isinstance(node, ast.ImportFrom):
                    names += [alias.name for alias in node.names]
                    home = PACKAGE / (node.module.partition(".")[2] + ".py")
                    for alias in node.names:
                        self.assertIsNone(alias.asname)
                        self.assertIn(alias.name, defined_in(home))
            self.assertEqual(len(names), len(set(names)))

    def test_no_two_files_import_from_each_other(self):
        ahead = {}
        for path, text, tree in self.each():
            ahead[path.stem] = {node.module.partition(".")[2] for node in tree.body if isinstance(node, ast.ImportFrom)}
        while ahead:
            free = [name for name in ahead if not ahead[name] & set(ahead)]
            self.assertTrue(free, ahead)
            for name in free:
                del ahead[name]

    def test_nothing_inside_a_function_is_called_like_an_import_or_a_class(self):
        for path, text, tree in self.each():
            outer = {alias.name for node in tree.body if isinstance(node, ast.ImportFrom) for alias in node.names}
            outer |= set(defined_in(path))
            for function in ast.walk(tree):
                if isinstance(function, ast.FunctionDef):
                    inner = bound_names(function) - {function.name}
                    self.assertEqual(sorted(inner & (outer | NOT_NAMES)), [], function.name)

    def test_is_only_of_none_true_and_false(self):
        for path, text, tree in self.each():
            for node in ast.walk(tree):
                if isinstance(node, ast.Compare):
                    for sign, side in zip(node.ops, node.comparators):
                        if isinstance(sign, (ast.Is, ast.IsNot)):
                            self.assertIn(ast.unparse(side), ("None", "True", "False"))

    def test_what_is_gone_through_is_gone_through_on_the_spot(self):
        for path, text, tree in self.each():
            spots = looped_over(tree)
            for node in ast.walk(tree):
                if isinstance(node, ast.Call) and called(node) in ON_THE_SPOT:
                    self.assertIn(node, spots, ast.unparse(node))
                self.assertNotIsInstance(node, (ast.GeneratorExp, ast.Yield, ast.YieldFrom, ast.Set, ast.SetComp))

    def test_sets_are_only_sorted_or_counted(self):
        for path, text, tree in self.each():
            taken = [node.args[0] for node in ast.walk(tree)
                     if isinstance(node, ast.Call) and called(node) in ("sorted", "len")]
            for node in ast.walk(tree):
                if isinstance(node, ast.Call) and called(node) == "set":
                    self.assertIn(node, taken)

    def test_methods_are_listed_ones(self):
        for path, text, tree in self.each():
            for node in ast.walk(tree):
                if isinstance(node, ast.Call) and isinstance(node.func, ast.Attribute):
                    self.assertIn(node.func.attr, METHODS)
                    self.assertEqual(node.keywords, [])

    def test_powers_signs_and_errors(self):
        for path, text, tree in self.each():
            self.assertNotIn("\\", text)
            for node in ast.walk(tree):
                self.assertNotIsInstance(node, (ast.Pow, ast.Try, ast.With, ast.Nonlocal, ast.NamedExpr, ast.Starred))
                if isinstance(node, ast.Constant) and isinstance(node.value, str):
                    self.assertNotIn("%", node.value)
                if isinstance(node, ast.Raise):
                    self.assertTrue(node.exc.func.id.startswith("Bad"))

    def test_what_a_loop_goes_through_is_not_changed_in_it(self):
        for path, text, tree in self.each():
            for loop in [node for node in ast.walk(tree) if isinstance(node, ast.For)]:
                over = {node.id for node in ast.walk(loop.iter) if isinstance(node, ast.Name)}
                for node in [inner for row in loop.body for inner in ast.walk(row)]:
                    if isinstance(node, ast.Call) and isinstance(node.func, ast.Attribute):
                        changed = node.func.value
                    elif isinstance(node, ast.Subscript) and isinstance(node.ctx, ast.Store):
                        changed = node.value
                    else:
                        continue
                    if ast.unparse(changed) in over:
                        self.assertIn(called(node), ("items", "values", "bit_length"), ast.unparse(node))
