"""The rules of ../shared/LANGUAGE.md that can be read off the files of the package, by their numbers."""

import ast
import pathlib
import re
import unittest
import warnings

PACKAGE = pathlib.Path(__file__).resolve().parent.parent / "sayarrows"
FILES = sorted(PACKAGE.glob("*.py"))

BUILTINS = set(
    "len range enumerate zip min max sum abs sorted reversed int str bool bytes list tuple dict set frozenset "
    "isinstance ord repr any all divmod super property staticmethod classmethod Exception ValueError TypeError "
    "KeyError IndexError LookupError ZeroDivisionError ArithmeticError OverflowError RuntimeError "
    "NotImplementedError AttributeError StopIteration NotImplemented".split()
)
METHODS = set(
    "append clear copy count endswith extend find get index insert isalnum isalpha isdigit islower isspace isupper "
    "items join keys ljust lower lstrip partition pop remove replace reverse rfind rjust rpartition rsplit rstrip "
    "setdefault split splitlines startswith strip update upper values zfill bit_length title capitalize swapcase "
    "casefold center expandtabs removeprefix removesuffix rindex isascii isdecimal isnumeric istitle isidentifier "
    "isprintable translate maketrans add discard sort".split()
)
SPECIAL = set("__init__ __eq__ __repr__ __str__ __len__".split())
NOWHERE = set("register mro elements open input version_info with_traceback add_note".split())
NO_NAMES = set(
    "attrgetter breakpoint builtins compile copyright credits delattr dir eval exec exit gc getattr globals hasattr "
    "help id importlib license locals methodcaller os quit setattr type vars sys hash map next round filter format "
    "iter object pow slice print chr".split()
)
WORDS = set(
    "type typing typing_extensions enum Enum IntEnum StrEnum Flag IntFlag Generic Protocol ABC ABCMeta namedtuple "
    "NamedTuple TypedDict TYPE_CHECKING abstractmethod".split()
)
BARRED = (
    ast.Global, ast.AsyncFunctionDef, ast.AsyncFor, ast.AsyncWith, ast.Await, ast.Import, ast.Div, ast.MatMult,
)


def bound_names(tree):
    """Each name that a file binds anywhere, with its line."""
    for node in ast.walk(tree):
        if isinstance(node, ast.Name) and not isinstance(node.ctx, ast.Load):
            yield node.id, node.lineno
        elif isinstance(node, ast.arg):
            yield node.arg, node.lineno
        elif isinstance(node, (ast.FunctionDef, ast.ClassDef)):
            yield node.name, node.lineno
        elif isinstance(node, ast.alias):
            yield node.asname or node.name, node.lineno


class Language(unittest.TestCase):
    def setUp(self):
        self.texts = {path.name: path.read_text(encoding="utf-8") for path in FILES}
        self.trees = {name: ast.parse(text) for name, text in self.texts.items()}

    def none(self, rule, found):
        self.assertEqual([], list(found), rule)

    def each_node(self, *kinds):
        for name, tree in self.trees.items():
            for node in ast.walk(tree):
                if isinstance(node, kinds):
                    yield name, node

    def test_l1_l14_files(self):
        there = [path.name for path in PACKAGE.iterdir() if path.name != "__pycache__"]
        self.none("L1", [name for name in there if not re.fullmatch(r"[a-z0-9_]+\.py", name)])
        self.assertIn("__init__.py", there)

    def test_l2_l16_imports(self):
        mine = {f"sayarrows.{path.stem}" for path in FILES}
        needs = {}
        for name, node in self.each_node(ast.ImportFrom):
            self.assertEqual(node.level, 0, (name, node.lineno))
            self.assertIn(node.module, mine, (name, node.lineno))
            defined = {
                target for child in self.trees[node.module.split(".")[1] + ".py"].body
                for target in ([child.name] if isinstance(child, (ast.FunctionDef, ast.ClassDef)) else
                               [aim.id for aim in child.targets] if isinstance(child, ast.Assign) else [])
            }
            for alias in node.names:
                self.assertIn(alias.name, defined, (name, node.lineno))
            needs.setdefault(f"sayarrows.{name[:-3]}", set()).add(node.module)
        while needs:
            free = [name for name in needs if not needs[name] & set(needs)]
            self.assertTrue(free, f"L16: files import from each other: {needs}")
            for name in free:
                del needs[name]

    def test_l3_l15_module_level(self):
        for name, tree in self.trees.items():
            bound = []
            for node in tree.body:
                plain = isinstance(node, ast.Expr) and isinstance(node.value, ast.Constant)
                kinds = (ast.ImportFrom, ast.FunctionDef, ast.ClassDef, ast.Assign)
                self.assertTrue(plain or isinstance(node, kinds), (name, node.lineno))
                if isinstance(node, (ast.FunctionDef, ast.ClassDef)):
                    bound.append(node.name)
                if isinstance(node, ast.Assign):
                    bound += [target.id for target in node.targets]
                    barred = (ast.Call, ast.ListComp, ast.DictComp, ast.SetComp, ast.Set, ast.Lambda)
                    self.none("L3", [part for part in ast.walk(node.value) if isinstance(part, barred)])
                if isinstance(node, ast.ImportFrom):
                    bound += [alias.asname or alias.name for alias in node.names]
            self.assertEqual(len(bound), len(set(bound)), name)

    def test_l15_locals_do_not_hide_what_the_file_has(self):
        for name, tree in self.trees.items():
            taken = {node.name for node in tree.body if isinstance(node, (ast.FunctionDef, ast.ClassDef))}
            taken |= {alias.asname or alias.name for node in tree.body if isinstance(node, ast.ImportFrom)
                      for alias in node.names}
            for node in ast.walk(tree):
                if isinstance(node, ast.arg):
                    self.assertNotIn(node.arg, taken, (name, node.lineno))
                if isinstance(node, ast.Name) and not isinstance(node.ctx, ast.Load):
                    self.assertNotIn(node.id, taken, (name, node.lineno))

    def test_l4_functions(self):
        for name, node in self.each_node(ast.FunctionDef, ast.Lambda):
            self.assertEqual(node.args.posonlyargs, [], (name, node.lineno))

    def test_l5_special_methods(self):
        for name, node in self.each_node(ast.FunctionDef):
            if node.name.startswith("__"):
                self.assertIn(node.name, SPECIAL, (name, node.lineno))

    def test_l6_l7_statements_and_values(self):
        self.none("L6, L7", [(name, node) for name, node in self.each_node(*BARRED)])
        constants = [node.value for _, node in self.each_node(ast.Constant)]
        self.none("L7", [value for value in constants if isinstance(value, (float, complex))])

    def test_l7_lists_and_no_generators_in_any_and_its_kin(self):
        for name, node in self.each_node(ast.Call):
            if isinstance(node.func, ast.Name) and node.func.id in ("any", "all", "min", "max", "sum", "sorted"):
                self.none("L7", [(name, node.lineno) for part in node.args if isinstance(part, ast.GeneratorExp)])

    def test_l8_l12_l15_l17_names(self):
        for name, tree in self.trees.items():
            known = {found for found, _ in bound_names(tree)}
            for node in ast.walk(tree):
                if isinstance(node, ast.Name) and isinstance(node.ctx, ast.Load) and node.id not in known:
                    self.assertIn(node.id, BUILTINS, (name, node.lineno))
            for found, line in bound_names(tree):
                self.assertRegex(found, r"\A([A-Za-z][A-Za-z0-9_]*|__[a-z]+__)\Z", (name, line))
                self.assertNotIn(found, BUILTINS | NO_NAMES | NOWHERE, (name, line))
        for name, node in self.each_node(ast.Attribute):
            self.assertNotIn(node.attr, NOWHERE | {"format", "format_map"}, (name, node.lineno))

    def test_l10_size(self):
        for name, text in self.texts.items():
            self.assertLessEqual(text.count("\n"), 400, name)
            self.none("L10", [row for row in text.split("\n") if len(row) > 120 or "\t" in row])
        for name, node in self.each_node(ast.FunctionDef):
            self.assertLessEqual(node.end_lineno - node.lineno + 1, 40, (name, node.name))

    def test_l14_characters(self):
        for name, text in self.texts.items():
            self.none("L14", [(name, sign) for sign in text if sign != "\n" and not " " <= sign <= "~"])

    def test_l17_words(self):
        for name, text in self.texts.items():
            self.none("L17", [(name, word) for word in re.findall(r"\w+", text) if word in WORDS])
            self.none("L17", re.findall(r"dataclass|overload|contextmanager", text))

    def test_l18_l26_no_name_is_a_method_and_an_attribute(self):
        methods, attributes = set(), set()
        for _, node in self.each_node(ast.ClassDef):
            methods |= {part.name for part in node.body if isinstance(part, ast.FunctionDef)}
        for _, node in self.each_node(ast.Attribute):
            if not isinstance(node.ctx, ast.Load):
                attributes.add(node.attr)
        self.assertEqual(methods & attributes, set())

    def test_l19_errors(self):
        for name, node in self.each_node(ast.Raise):
            if node.exc is not None:
                self.assertIsInstance(node.exc, ast.Call, (name, node.lineno))
        for name, node in self.each_node(ast.ExceptHandler):
            self.assertIsNotNone(node.type, (name, node.lineno))
            self.assertNotIn(ast.unparse(node.type), ("Exception", "TypeError", "()"), (name, node.lineno))

    def test_l20_is(self):
        for name, node in self.each_node(ast.Compare):
            for sign, right in zip(node.ops, node.comparators):
                if isinstance(sign, (ast.Is, ast.IsNot)):
                    fine = isinstance(right, ast.Constant) and (right.value is None or isinstance(right.value, bool))
                    self.assertTrue(fine, (name, node.lineno))

    def test_l25_methods(self):
        own = {node.name for _, node in self.each_node(ast.FunctionDef)}
        for name, node in self.each_node(ast.Call):
            if isinstance(node.func, ast.Attribute):
                self.assertIn(node.func.attr, METHODS | own, (name, node.lineno))

        self.none("L25", [(name, node.lineno) for name, node in self.each_node(ast.Attribute) if node.attr == "sort"])

    def test_l23_iterated_at_once(self):
        lazy = {"zip", "enumerate", "reversed", "range"}
        views = {"items", "keys", "values"}
        for name, node in self.each_node(ast.Assign, ast.Return):
            call = node.value
            if isinstance(call, ast.Call) and isinstance(call.func, ast.Name):
                self.assertNotIn(call.func.id, lazy, (name, node.lineno))
            if isinstance(call, ast.Call) and isinstance(call.func, ast.Attribute):
                self.assertNotIn(call.func.attr, views, (name, node.lineno))

    def test_l24_sets_stand_in_sorted_or_len_alone(self):
        inside = [id(part) for _, node in self.each_node(ast.Call)
                  if isinstance(node.func, ast.Name) and node.func.id in ("sorted", "len") for part in node.args]
        for name, node in self.each_node(ast.Set, ast.SetComp, ast.Call):
            if not isinstance(node, ast.Call) or isinstance(node.func, ast.Name) and node.func.id == "set":
                self.assertIn(id(node), inside, (name, node.lineno))

    def test_l7_l28_what_classes_tell_of_themselves(self):
        for name, node in self.each_node(ast.FunctionDef):
            if node.name in ("__eq__", "__len__", "__repr__", "__str__"):
                *_, last = node.body
                self.assertEqual(len(node.body), 2, (name, node.lineno))
                self.assertIsInstance(last, ast.Return, (name, node.lineno))
            if node.name == "__len__":
                self.assertEqual(last.value.func.id, "len", (name, node.lineno))
            if node.name in ("__repr__", "__str__"):
                self.assertIsInstance(last.value, ast.JoinedStr, (name, node.lineno))

    def test_l27_strings(self):
        for name, node in self.each_node(ast.Constant):
            if isinstance(node.value, str):
                self.assertNotIn(chr(37), node.value, (name, node.lineno))
                self.assertFalse(node.value.endswith(("._", ".__")), (name, node.lineno))
        for name, text in self.texts.items():
            self.none("L27", re.findall(r"\\[^nt\\'\"]", text))
            with warnings.catch_warnings():
                warnings.simplefilter("error")
                compile(text, name, "exec")

    def test_each_function_says_what_it_tells(self):
        self.none("docstrings", [(name, node.name) for name, node in self.each_node(ast.FunctionDef, ast.ClassDef)
                                 if node.name != "__init__" and ast.get_docstring(node) is None])


if __name__ == "__main__":
    unittest.main()
