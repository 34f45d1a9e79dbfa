"""Those rules of the language document that can be read off the files without running them."""

import ast
import builtins
import os
import re
import unittest

PACKAGE = os.path.join(os.path.dirname(os.path.dirname(os.path.abspath(__file__))), "gapcalls")

ALLOWED_BUILTINS = set(
    "len range enumerate zip min max sum abs sorted reversed int str bool bytes list tuple dict set frozenset "
    "isinstance ord repr any all divmod iter next super property staticmethod classmethod "
    "Exception ValueError TypeError KeyError IndexError LookupError ZeroDivisionError ArithmeticError "
    "OverflowError RuntimeError NotImplementedError AttributeError StopIteration NotImplemented".split())

BARRED_WORDS = set(
    "type typing typing_extensions enum Enum IntEnum StrEnum Flag IntFlag Generic Protocol ABC ABCMeta namedtuple "
    "NamedTuple TypedDict TYPE_CHECKING abstractmethod".split())

BARRED_INSIDE_WORDS = ("dataclass", "overload", "contextmanager")

BARRED_NAMES = set(
    "register mro elements open input version_info with_traceback add_note attrgetter breakpoint builtins compile "
    "copyright credits delattr dir eval exec exit gc getattr globals hasattr help id importlib license locals "
    "methodcaller os quit setattr vars sys".split())

ALLOWED_METHODS = set(
    "append clear copy count endswith extend find get index insert isalnum isalpha isdigit islower isspace isupper "
    "items join keys ljust lower lstrip partition pop remove replace reverse rfind rjust rpartition rsplit rstrip "
    "setdefault split splitlines startswith strip update upper values zfill bit_length title capitalize swapcase casefold "
    "center expandtabs removeprefix removesuffix rindex isascii isdecimal isnumeric istitle isidentifier isprintable "
    "sort add discard".split())

BARRED_NODES = (
    ast.Global, ast.AsyncFunctionDef, ast.AsyncFor, ast.AsyncWith, ast.Await, ast.Div)


def files():
    names = sorted(name for name in os.listdir(PACKAGE) if name != "__pycache__")
    return [(name, os.path.join(PACKAGE, name)) for name in names]


def text_of(path):
    with open(path, encoding="utf-8", newline="") as file:
        return file.read()


def trees():
    return [(name, ast.parse(text_of(path))) for name, path in files()]


def nodes_of(kinds):
    return [(name, node) for name, tree in trees() for node in ast.walk(tree) if isinstance(node, kinds)]


def imports_of(tree):
    return [node for node in ast.walk(tree) if isinstance(node, (ast.Import, ast.ImportFrom))]


def bound_at_module_level(tree):
    names = []
    for node in tree.body:
        if isinstance(node, (ast.FunctionDef, ast.ClassDef)):
            names.append(node.name)
        elif isinstance(node, ast.Assign):
            names.extend(target.id for target in node.targets)
        elif isinstance(node, ast.ImportFrom):
            names.extend(alias.asname or alias.name for alias in node.names)
    return names


def bound_anywhere(tree):
    names = []
    for node in ast.walk(tree):
        if isinstance(node, (ast.FunctionDef, ast.ClassDef)):
            names.append(node.name)
        elif isinstance(node, ast.arg):
            names.append(node.arg)
        elif isinstance(node, ast.Name) and isinstance(node.ctx, ast.Store):
            names.append(node.id)
    return names


class Language(unittest.TestCase):
    def test_l1_l14_plain_files(self):
        self.assertIn("__init__.py", [name for name, _ in files()])
        for name, path in files():
            with self.subTest(file=name):
                self.assertTrue(os.path.isfile(path))
                self.assertRegex(name, r"\A(__init__|__main__|[a-z][a-z0-9_]*)\.py\Z")
                if not name.startswith("__"):
                    self.assertFalse(hasattr(builtins, name[:-3]))

    def test_l14_signs(self):
        for name, path in files():
            with self.subTest(file=name):
                self.assertRegex(text_of(path), r"\A[ -~\n]*\Z")

    def test_l2_l16_imports(self):
        defined = {"gapcalls." + name[:-3]: bound_at_module_level(tree) for name, tree in trees()}
        for name, tree in trees():
            for node in imports_of(tree):
                with self.subTest(file=name, line=node.lineno):
                    self.assertIsInstance(node, ast.ImportFrom)
                    self.assertEqual(node.level, 0)
                    self.assertIn(node.module, defined)
                    self.assertIn(node, tree.body)
                    for alias in node.names:
                        self.assertIn(alias.name, defined[node.module])

    def test_l16_no_ring_of_imports(self):
        left = {"gapcalls." + name[:-3]: {node.module for node in imports_of(tree)} for name, tree in trees()}
        while left:
            free = [module for module in left if not left[module] & set(left)]
            self.assertTrue(free, left)
            for module in free:
                del left[module]

    def test_l3_module_level(self):
        for name, tree in trees():
            for at, node in enumerate(tree.body):
                with self.subTest(file=name, line=node.lineno):
                    if isinstance(node, ast.Expr):
                        self.assertEqual(at, 0)
                        self.assertIsInstance(node.value.value, str)
                    else:
                        self.assertIsInstance(node, (ast.ImportFrom, ast.FunctionDef, ast.ClassDef, ast.Assign))

    def test_l15_one_binding_for_each_name(self):
        for name, tree in trees():
            names = bound_at_module_level(tree)
            with self.subTest(file=name):
                self.assertEqual(len(names), len(set(names)))

    def test_l8_builtins(self):
        for name, node in nodes_of(ast.Name):
            if hasattr(builtins, node.id):
                with self.subTest(file=name, line=node.lineno):
                    self.assertIn(node.id, ALLOWED_BUILTINS)

    def test_l12_l15_l17_names(self):
        for name, tree in trees():
            for bound in bound_anywhere(tree):
                with self.subTest(file=name, bound=bound):
                    self.assertNotIn(bound, BARRED_NAMES)
                    if bound[:2] != "__":
                        self.assertRegex(bound, r"\A[A-Za-z][A-Za-z0-9_]*\Z")
                        self.assertFalse(hasattr(builtins, bound))

    def test_l15_no_local_name_of_an_import_or_a_class(self):
        for name, tree in trees():
            taken = {node.name for node in tree.body if isinstance(node, ast.ClassDef)}
            taken |= {alias.asname or alias.name for node in imports_of(tree) for alias in node.names}
            for function in [node for node in ast.walk(tree) if isinstance(node, (ast.FunctionDef, ast.Lambda))]:
                inner = [part for part in ast.walk(function) if part != function]
                bound = {part.arg for part in inner if isinstance(part, ast.arg)}
                bound |= {part.id for part in inner if isinstance(part, ast.Name) and isinstance(part.ctx, ast.Store)}
                bound |= {part.name for part in inner if isinstance(part, ast.FunctionDef)}
                with self.subTest(file=name, line=function.lineno):
                    self.assertEqual(bound & taken, set())

    def test_l25_methods(self):
        own = {item.name for _, node in nodes_of(ast.ClassDef) for item in node.body
               if isinstance(item, ast.FunctionDef)}
        for name, node in nodes_of(ast.Call):
            if isinstance(node.func, ast.Attribute):
                with self.subTest(file=name, line=node.lineno):
                    self.assertIn(node.func.attr, ALLOWED_METHODS | own)

    def test_l22_keywords_of_builtins(self):
        for name, node in nodes_of(ast.Call):
            if isinstance(node.func, ast.Name) and hasattr(builtins, node.func.id):
                with self.subTest(file=name, line=node.lineno):
                    self.assertLessEqual({word.arg for word in node.keywords}, {"key", "reverse", "default", "start"})

    def test_l7_generator_expressions_stand_directly_in_what_takes_them(self):
        takers = [node.args for _, node in nodes_of(ast.Call) if ast.unparse(node.func) in (
            "list", "tuple", "dict", "sorted", "sum", "min", "max", "any", "all")]
        taken = [argument for arguments in takers for argument in arguments]
        for name, tree in trees():
            self.assertLessEqual(
                {ast.unparse(node) for node in ast.walk(tree) if isinstance(node, ast.GeneratorExp)},
                {ast.unparse(argument) for argument in taken})

    def test_l24_sets_stand_where_they_may(self):
        for name, tree in trees():
            around = {part: node for node in ast.walk(tree) for part in ast.iter_child_nodes(node)}
            for node in ast.walk(tree):
                if isinstance(node, (ast.SetComp, ast.Set)):
                    outer = around[node]
                    while isinstance(outer, ast.BinOp):
                        outer = around[outer]
                    with self.subTest(file=name, line=node.lineno):
                        self.assertTrue(isinstance(outer, ast.Compare) or ast.unparse(outer.func) in ("len", "sorted"))

    def test_l17_words(self):
        for name, path in files():
            text = text_of(path)
            with self.subTest(file=name):
                self.assertEqual(set(re.findall(r"\w+", text)) & BARRED_WORDS, set())
                self.assertEqual([word for word in BARRED_INSIDE_WORDS if word in text], [])

    def test_l10_sizes(self):
        for name, path in files():
            rows = text_of(path).split("\n")
            with self.subTest(file=name):
                self.assertLessEqual(len(rows), 400)
                self.assertLessEqual(max(len(row) for row in rows), 120)
        for name, node in nodes_of(ast.FunctionDef):
            with self.subTest(file=name, function=node.name):
                self.assertLessEqual(node.end_lineno - node.lineno + 1, 40)

    def test_l6_l7_statements_and_numbers(self):
        for name, node in nodes_of(BARRED_NODES):
            self.fail(f"{name}: {ast.dump(node)[:60]}")
        for name, node in nodes_of(ast.Constant):
            self.assertNotIsInstance(node.value, (float, complex), name)

    def test_l20_is(self):
        for name, node in nodes_of(ast.Compare):
            for sign, thing in zip(node.ops, node.comparators):
                if isinstance(sign, (ast.Is, ast.IsNot)):
                    with self.subTest(file=name, line=node.lineno):
                        self.assertIn(ast.unparse(thing), ("None", "True", "False"))

    def test_l27_texts(self):
        for name, node in nodes_of(ast.Constant):
            if isinstance(node.value, str):
                with self.subTest(file=name, line=node.lineno):
                    self.assertNotIn("%", node.value)

    def test_l18_no_name_is_both_a_method_and_an_attribute(self):
        methods = [item.name for _, node in nodes_of(ast.ClassDef) for item in node.body
                   if isinstance(item, ast.FunctionDef)]
        attributes = [node.attr for _, node in nodes_of(ast.Attribute) if isinstance(node.ctx, ast.Store)]
        self.assertEqual(set(methods) & set(attributes), set())


if __name__ == "__main__":
    unittest.main()
