"""The package's own files keep to rules of LANGUAGE.md: files, signs, sizes, statements, names, methods, imports.

Some forms that the rules allow in places are held out altogether, as the program does without them: sets, lambdas,
try, defaults, annotations, keywords, isinstance, powers, escapes, lists and dicts at a file's top, functions within
functions, and methods with two underscores but __init__.
Left to the reader's eye: L11, of L23 what a loop changes through another name, and whatever else these tests miss.
"""

import ast
import builtins
import pathlib
import re
import unittest

PACKAGE = pathlib.Path(__file__).resolve().parent.parent / "firewatch"

STATEMENTS = (
    ast.Assign, ast.AugAssign, ast.If, ast.While, ast.For, ast.Return, ast.Break, ast.Continue,
    ast.Pass, ast.Raise, ast.Expr, ast.FunctionDef, ast.ClassDef, ast.ImportFrom,
)
EXPRESSIONS = (
    ast.Constant, ast.Name, ast.List, ast.Tuple, ast.Dict, ast.BinOp, ast.UnaryOp, ast.BoolOp, ast.Compare,
    ast.IfExp, ast.Call, ast.Attribute, ast.Subscript, ast.Slice, ast.ListComp, ast.JoinedStr,
    ast.FormattedValue,
)
PYTHONS_NAMES = (
    "len range enumerate zip min max sum abs sorted reversed int str bool list tuple dict "
    "ord repr any all divmod ValueError KeyError IndexError LookupError ZeroDivisionError "
    "ArithmeticError OverflowError RuntimeError NotImplementedError StopIteration Exception"
).split()
PYTHONS_METHODS = (
    "append clear copy count endswith extend find get index insert isalnum isalpha isdigit islower isspace "
    "isupper items join keys ljust lower lstrip partition pop remove replace reverse rfind rjust rpartition "
    "rsplit rstrip setdefault split splitlines startswith strip update upper values zfill bit_length"
).split()
WORDS = (
    "type typing typing_extensions enum Enum IntEnum StrEnum Flag IntFlag Generic Protocol ABC ABCMeta "
    "namedtuple NamedTuple TypedDict TYPE_CHECKING abstractmethod"
).split()
BUILT_IN = [name for name in dir(builtins) if not name.startswith("_")]
DOUBLE = ("__init__",)
NOT_USED = (
    "register mro elements open input version_info with_traceback add_note attrgetter breakpoint builtins compile "
    "copyright credits delattr dir eval exec exit gc getattr globals hasattr help id importlib license locals "
    "methodcaller os quit setattr super vars sys format format_map"
).split()
CHANGES = "append clear extend insert pop remove reverse setdefault update".split()
WALKED = ("zip", "enumerate", "reversed", "range", "items", "keys", "values")
WALKERS = ("list", "tuple", "dict", "sorted", "sum", "any", "all", "enumerate", "zip", "min", "max")


def sources():
    return [(path.name, path.read_text("utf-8")) for path in sorted(PACKAGE.glob("*.py"))]


def nodes():
    return [(name, node) for name, text in sources() for node in ast.walk(ast.parse(text))]


def bound_names(node):
    if isinstance(node, (ast.FunctionDef, ast.ClassDef)):
        return [node.name]
    if isinstance(node, ast.arg):
        return [node.arg]
    if isinstance(node, ast.Name) and isinstance(node.ctx, ast.Store):
        return [node.id]
    return []


def called(node):
    """The name of the function or method that is called here, or None."""
    if isinstance(node, ast.Call):
        return node.func.attr if isinstance(node.func, ast.Attribute) else node.func.id
    return None


class Language(unittest.TestCase):
    def test_files(self):
        found = [path.name for path in PACKAGE.iterdir() if path.name != "__pycache__"]
        self.assertIn("__init__.py", found)
        for name in found:
            self.assertRegex(name, r"^(__init__|[a-z][a-z0-9_]*)\.py$")
            self.assertNotIn(name[:-3], BUILT_IN + WORDS)
            self.assertNotRegex(name, r"^(tests?|testing|test_.*|site|conftest|sitecustomize|usercustomize)\.py$")

    def test_signs_words_and_sizes(self):
        for name, text in sources():
            self.assertRegex(text, r"\A[ -~\n]*\Z", name)
            self.assertLessEqual(len(text.splitlines()), 400, name)
            self.assertLessEqual(max(len(line) for line in text.splitlines()), 120, name)
            for word in re.findall(r"\w+", text):
                self.assertNotIn(word, WORDS, name)
                self.assertNotRegex(word, "dataclass|overload|contextmanager", name)

    def test_statements_and_expressions(self):
        for name, node in nodes():
            if isinstance(node, ast.stmt):
                self.assertIsInstance(node, STATEMENTS, name)
            if isinstance(node, ast.expr):
                self.assertIsInstance(node, EXPRESSIONS, name)
            if isinstance(node, ast.Constant):
                self.assertIn(type(node.value), (int, str, bool, type(None)), name)
            if isinstance(node, ast.Assign):
                self.assertEqual(len(node.targets), 1, name)
            if isinstance(node, (ast.For, ast.While)):
                self.assertEqual(node.orelse, [], name)
            if isinstance(node, ast.ListComp):
                self.assertEqual(len(node.generators), 1, name)
                self.assertLessEqual(len(node.generators[0].ifs), 1, name)
            if isinstance(node, ast.Compare) and isinstance(node.ops[0], (ast.Is, ast.IsNot)):
                self.assertIn(ast.unparse(node.comparators[0]), ("None", "True", "False"), name)
            self.assertNotIsInstance(node, ast.Div, name)

    def test_only_calls_stand_by_themselves(self):
        for name, text in sources():
            tree = ast.parse(text)
            for node in ast.walk(tree):
                if isinstance(node, ast.Expr) and node != tree.body[0]:
                    self.assertIsInstance(node.value, ast.Call, (name, node.lineno))

    def test_f_strings_have_plain_names(self):
        for name, node in nodes():
            if isinstance(node, ast.FormattedValue):
                self.assertIsInstance(node.value, ast.Name, name)
                self.assertIsNone(node.format_spec, name)
                self.assertIn(node.conversion, (-1, ord("r")), name)

    def test_errors_are_made_on_the_spot(self):
        for name, node in nodes():
            if isinstance(node, ast.Raise):
                self.assertIsInstance(node.exc, ast.Call, name)
                self.assertIsNone(node.cause, name)

    def test_functions_and_classes(self):
        for name, node in nodes():
            if isinstance(node, (ast.FunctionDef, ast.ClassDef)):
                self.assertEqual(node.decorator_list, [], node.name)
            if isinstance(node, ast.ClassDef):
                self.assertLessEqual(len(node.bases), 1, node.name)
                for part in node.body:
                    self.assertIsInstance(part, (ast.FunctionDef, ast.Pass), node.name)
            if isinstance(node, ast.FunctionDef):
                self.assertLessEqual(node.end_lineno - node.lineno + 1, 40, node.name)
                self.assertIsNone(node.args.vararg or node.args.kwarg or node.returns, node.name)
                self.assertEqual(node.args.kwonlyargs + node.args.posonlyargs + node.args.defaults, [], node.name)
                for part in ast.walk(node):
                    self.assertTrue(part == node or not isinstance(part, (ast.FunctionDef, ast.ClassDef)), node.name)
            if isinstance(node, ast.arg):
                self.assertIsNone(node.annotation, name)

    def test_names(self):
        for name, node in nodes():
            for bound in bound_names(node):
                self.assertNotIn(bound, BUILT_IN, name)
                if bound not in DOUBLE:
                    self.assertRegex(bound, r"^[A-Za-z][A-Za-z0-9_]*$", name)
            if isinstance(node, ast.Name) and node.id in BUILT_IN:
                self.assertIn(node.id, PYTHONS_NAMES, name)
            used = bound_names(node)
            if isinstance(node, (ast.Name, ast.Attribute)):
                used = [node.id if isinstance(node, ast.Name) else node.attr]
            self.assertEqual(set(used) & set(NOT_USED), set(), name)
            if isinstance(node, (ast.Name, ast.Attribute)):
                self.assertRegex(used[0], r"^(?!f_|tb_|co_)[A-Za-z]", name)

    def test_methods(self):
        own = [node.name for name, node in nodes() if isinstance(node, ast.FunctionDef)]
        for name, node in nodes():
            if isinstance(node, ast.Call) and isinstance(node.func, ast.Attribute):
                self.assertIn(node.func.attr, PYTHONS_METHODS + own, name)
        for name, node in nodes():
            if isinstance(node, ast.ClassDef):
                methods = [part.name for part in node.body if isinstance(part, ast.FunctionDef)]
                self.assertEqual(len(methods), len(set(methods)), node.name)
                for method in set(methods) - {"__init__"}:
                    for kind in (str, int, list, dict, set, bytes, tuple):
                        self.assertFalse(hasattr(kind, method), (name, method))

    def test_methods_are_called_where_they_stand(self):
        methods = PYTHONS_METHODS + [
            part.name for name, node in nodes() if isinstance(node, ast.ClassDef)
            for part in node.body if isinstance(part, ast.FunctionDef)
        ]
        for name, text in sources():
            heads = [node.func for node in ast.walk(ast.parse(text)) if isinstance(node, ast.Call)]
            heads = [ast.unparse(head) + str(head.lineno) for head in heads]
            for node in ast.walk(ast.parse(text)):
                if isinstance(node, ast.Attribute) and node.attr in methods:
                    self.assertIn(ast.unparse(node) + str(node.lineno), heads, name)

    def test_values_are_given_through_self(self):
        for name, node in nodes():
            if isinstance(node, ast.Attribute) and isinstance(node.ctx, ast.Store):
                self.assertEqual(ast.unparse(node.value), "self", name)

    def test_a_loop_does_not_change_what_it_walks(self):
        for name, node in nodes():
            if isinstance(node, ast.For):
                for part in ast.walk(node):
                    if called(part) in CHANGES and isinstance(part.func, ast.Attribute):
                        self.assertNotEqual(ast.unparse(part.func.value), ast.unparse(node.iter), name)
                    if isinstance(part, ast.Subscript) and isinstance(part.ctx, ast.Store):
                        self.assertNotEqual(ast.unparse(part.value), ast.unparse(node.iter), name)

    def test_no_name_is_a_method_and_a_value(self):
        methods = [
            part.name for name, node in nodes() if isinstance(node, ast.ClassDef)
            for part in node.body if isinstance(part, ast.FunctionDef)
        ]
        for name, node in nodes():
            if isinstance(node, ast.Attribute) and isinstance(node.ctx, ast.Store):
                self.assertNotIn(node.attr, methods, name)
                for kind in (str, int, list, dict, set, bytes, tuple):
                    self.assertFalse(hasattr(kind, node.attr), (name, node.attr))

    def test_no_class_and_no_name_of_pythons_own_is_kept_as_a_value(self):
        called_alone = BUILT_IN + [node.name for name, node in nodes() if isinstance(node, ast.ClassDef)]
        for name, text in sources():
            tree = ast.parse(text)
            heads = [node.func for node in ast.walk(tree) if isinstance(node, ast.Call)]
            heads += [base for node in ast.walk(tree) if isinstance(node, ast.ClassDef) for base in node.bases]
            for node in ast.walk(tree):
                if isinstance(node, ast.Name) and node.id in called_alone:
                    self.assertIn(node, heads, (name, node.id))

    def test_calls_have_no_keywords(self):
        for name, node in nodes():
            if isinstance(node, ast.Call):
                self.assertEqual(node.keywords, [], name)

    def test_walked_at_once(self):
        for name, text in sources():
            tree = ast.parse(text)
            walked = [node.iter for node in ast.walk(tree) if isinstance(node, (ast.For, ast.comprehension))]
            walked += [node.args[0] for node in ast.walk(tree) if called(node) in WALKERS]
            for node in ast.walk(tree):
                if called(node) in WALKED:
                    self.assertIn(node, walked, (name, node.lineno))

    def test_the_top_of_a_file_holds_numbers_and_each_name_once(self):
        for name, text in sources():
            bound = []
            for node in ast.parse(text).body[1:]:
                if isinstance(node, ast.Assign):
                    self.assertIs(type(ast.literal_eval(node.value)), int, name)
                    bound.append(node.targets[0].id)
                elif isinstance(node, ast.ImportFrom):
                    bound += [alias.asname or alias.name for alias in node.names]
                else:
                    self.assertIsInstance(node, (ast.FunctionDef, ast.ClassDef), name)
                    bound.append(node.name)
            self.assertEqual(len(bound), len(set(bound)), name)

    def test_no_parameter_or_local_is_called_like_a_class_or_an_import(self):
        for name, text in sources():
            tree = ast.parse(text)
            taken = [node.name for node in tree.body if isinstance(node, ast.ClassDef)]
            taken += [alias.name for node in tree.body if isinstance(node, ast.ImportFrom) for alias in node.names]
            for node in ast.walk(tree):
                if isinstance(node, (ast.arg, ast.Name)):
                    self.assertEqual(set(bound_names(node)) & set(taken), set(), name)

    def test_numbers_and_texts(self):
        for name, node in nodes():
            self.assertNotIsInstance(node, ast.Pow, name)
            if isinstance(node, ast.Constant) and isinstance(node.value, str):
                self.assertNotIn("%", node.value, name)
        for name, text in sources():
            self.assertNotIn("\\", text, name)

    def test_making_an_object_gives_back_nothing(self):
        for name, node in nodes():
            if isinstance(node, ast.FunctionDef) and node.name == "__init__":
                self.assertFalse([part for part in ast.walk(node) if isinstance(part, ast.Return)], name)

    def test_imports(self):
        drawn = {}
        defined = {}
        for name, text in sources():
            defined[name] = [node.name for node in ast.parse(text).body if hasattr(node, "name")]
        for name, text in sources():
            tops = {node.name for node in ast.parse(text).body if hasattr(node, "name")}
            drawn[name] = []
            for node in ast.walk(ast.parse(text)):
                if isinstance(node, ast.ImportFrom):
                    self.assertEqual(node.level, 0, name)
                    self.assertRegex(node.module, r"^firewatch\.\w+$", name)
                    self.assertNotIn("*", [alias.name for alias in node.names], name)
                    self.assertEqual(tops & {alias.asname or alias.name for alias in node.names}, set(), name)
                    drawn[name].append(node.module.split(".")[1] + ".py")
                    for alias in node.names:
                        self.assertIn(alias.name, defined[drawn[name][-1]], name)
        self.assertEqual(drawn["__init__.py"], [])
        while drawn:
            free = [name for name in drawn if not set(drawn[name]) & set(drawn)]
            self.assertNotEqual(free, [], "files draw from one another")
            for name in free:
                del drawn[name]


if __name__ == "__main__":
    unittest.main()
