"""Rules of LANGUAGE.md that can be read off the files of the package.

Not every rule is here: a new file is still to be held against the whole list.
"""

import ast
import builtins
import os
import re
import tokenize
import unittest

ROOT = os.path.dirname(os.path.dirname(os.path.abspath(__file__)))
PACKAGE = os.path.join(ROOT, "cardboxes")

BUILTINS = """len range enumerate zip min max sum abs sorted reversed int str bool bytes list tuple dict set
frozenset isinstance ord repr any all divmod iter next Exception ValueError TypeError KeyError IndexError
LookupError ZeroDivisionError ArithmeticError OverflowError RuntimeError NotImplementedError AttributeError
StopIteration NotImplemented super property staticmethod classmethod""".split()

METHODS = """append clear copy count endswith extend find get index insert isalnum isalpha isdigit islower isspace
isupper items join keys ljust lower lstrip partition pop remove replace reverse rfind rjust rpartition rsplit
rstrip setdefault split splitlines startswith strip update upper values zfill bit_length add discard sort
removeprefix removesuffix isascii isdecimal""".split()

BARRED_WORDS = """type typing typing_extensions enum Enum IntEnum StrEnum Flag IntFlag Generic Protocol ABC ABCMeta
namedtuple NamedTuple TypedDict TYPE_CHECKING abstractmethod""".split()

ERROR_BASES = "Exception ValueError KeyError IndexError LookupError ArithmeticError RuntimeError".split()

SPECIAL_METHODS = "__init__ __eq__ __repr__ __str__ __len__".split()

# Methods of builtin values whose names attributes may have all the same.
SHARED_ATTRIBUTES = "count index title find get join lower upper split strip copy add".split()

BUILTIN_KEYWORDS = {
    "sorted": ("key", "reverse"), "min": ("key", "default"), "max": ("key", "default"),
    "sum": ("start",), "enumerate": ("start",), "zip": ("strict",),
}

TAKES_ITERABLES = "list tuple dict sorted sum any all enumerate zip min max".split()

# Some of these are allowed in places, but the package has no need of them.
BARRED_NODES = (
    ast.Import, ast.Global, ast.AsyncFor, ast.AsyncFunctionDef, ast.AsyncWith, ast.Await, ast.Div, ast.MatMult,
    ast.GeneratorExp, ast.Yield, ast.YieldFrom, ast.Lambda, ast.With, ast.Match, ast.NamedExpr, ast.AnnAssign,
    ast.Nonlocal, ast.Delete, ast.Assert,
)

WRITING_NODES = (ast.Assign, ast.AugAssign, ast.For, ast.While, ast.Try)


def package_files():
    return sorted(name for name in os.listdir(PACKAGE) if name != "__pycache__")


def read(name):
    with open(os.path.join(PACKAGE, name), "rb") as file:
        return file.read().decode("utf-8")


def each_file():
    for name in package_files():
        text = read(name)
        yield name, text, ast.parse(text, name)


def functions_in(tree):
    return [node for node in ast.walk(tree) if isinstance(node, ast.FunctionDef)]


def module_names(tree):
    """All names that a file binds at module level, each as often as it is bound."""
    found = []
    for node in tree.body:
        if isinstance(node, ast.Assign):
            found += [target.id for target in node.targets]
        elif isinstance(node, ast.ImportFrom):
            found += [alias.asname or alias.name for alias in node.names]
        elif isinstance(node, (ast.FunctionDef, ast.ClassDef)):
            found.append(node.name)
    return found


def local_names(tree):
    names = [node.id for node in ast.walk(tree) if isinstance(node, ast.Name) and not isinstance(node.ctx, ast.Load)]
    return names + [node.arg for node in ast.walk(tree) if isinstance(node, ast.arg)]


def classes_in(tree):
    return [node for node in ast.walk(tree) if isinstance(node, ast.ClassDef)]


def method_names(tree):
    return [node.name for one in classes_in(tree) for node in one.body if isinstance(node, ast.FunctionDef)]


def stored_attributes(tree):
    nodes = [node for node in ast.walk(tree) if isinstance(node, ast.Attribute)]
    return [node.attr for node in nodes if isinstance(node.ctx, ast.Store)]


def called_name(node):
    """The plain name that a call calls, or None."""
    return node.func.id if isinstance(node, ast.Call) and isinstance(node.func, ast.Name) else None


def parents_in(tree):
    return {child: node for node in ast.walk(tree) for child in ast.iter_child_nodes(node)}


def own_errors():
    return [one.name for one in classes_in(ast.parse(read("errors.py")))]


def names_in(node):
    """The names of a handler: one, or several in parentheses."""
    return [one.id for one in (node.elts if isinstance(node, ast.Tuple) else [node])]


def imported_files(tree):
    return [node.module.split(".")[1] for node in tree.body if isinstance(node, ast.ImportFrom)]


class LanguageTest(unittest.TestCase):
    def test_files(self):
        self.assertIn("__init__.py", package_files())
        for name in package_files():
            self.assertRegex(name, r"\A(__init__|__main__|[a-z][a-z0-9_]*)\.py\Z")

    def test_characters_and_lengths(self):
        for name, text, tree in each_file():
            self.assertRegex(text, r"\A[ -~\n]*\Z")
            lines = text.split("\n")
            self.assertLessEqual(len(lines), 400)
            self.assertLessEqual(max(len(line) for line in lines), 120)
            for node in functions_in(tree):
                self.assertLessEqual(node.end_lineno - node.lineno + 1, 40, node.name)

    def test_words(self):
        for name, text, tree in each_file():
            words = re.findall(r"\w+", text)
            self.assertEqual([word for word in words if word in BARRED_WORDS], [])
            for part in ("dataclass", "overload", "contextmanager"):
                self.assertNotIn(part, text)

    def test_imports(self):
        for name, text, tree in each_file():
            for node in ast.walk(tree):
                if isinstance(node, ast.ImportFrom):
                    self.assertIn(node, tree.body)
                    self.assertEqual(node.level, 0)
                    self.assertRegex(node.module, r"\Acardboxes\.[a-z_]+\Z")
                    source = ast.parse(read(node.module.split(".")[1] + ".py"))
                    made = [one for one in source.body if not isinstance(one, ast.ImportFrom)]
                    for alias in node.names:
                        self.assertIn(alias.name, module_names(ast.Module(made, [])))

    def test_module_level(self):
        for name, text, tree in each_file():
            bound = module_names(tree)
            self.assertEqual(len(bound), len(set(bound)))
            self.assertIsInstance(tree.body[0], ast.Expr)
            for node in tree.body[1:]:
                self.assertIsInstance(node, (ast.Assign, ast.ImportFrom, ast.FunctionDef, ast.ClassDef))

    def test_names(self):
        for name, text, tree in each_file():
            taken = [one for node in tree.body if isinstance(node, (ast.ImportFrom, ast.ClassDef, ast.FunctionDef))
                     for one in module_names(ast.Module([node], []))]
            for function in functions_in(tree):
                for local in local_names(function):
                    self.assertNotIn(local, taken)
            for local in local_names(tree) + module_names(tree):
                self.assertFalse(local.startswith("_"), local)
                self.assertFalse(hasattr(builtins, local), local)

    def test_builtins_and_methods(self):
        methods = [method for name, text, tree in each_file() for method in method_names(tree)]
        for name, text, tree in each_file():
            own = [node.name for node in functions_in(tree)]
            known = set(local_names(tree) + module_names(tree) + own + BUILTINS)
            for node in ast.walk(tree):
                if isinstance(node, ast.Name):
                    self.assertIn(node.id, known)
                if isinstance(node, ast.Call) and isinstance(node.func, ast.Attribute):
                    self.assertIn(node.func.attr, METHODS + methods)

    def test_expressions(self):
        for name, text, tree in each_file():
            for node in ast.walk(tree):
                self.assertNotIsInstance(node, BARRED_NODES)
                if isinstance(node, ast.Constant):
                    self.assertNotIsInstance(node.value, (float, complex))
                    self.assertNotIn("%", str(node.value))
                if isinstance(node, ast.BinOp) and isinstance(node.op, ast.Pow):
                    self.assertIsInstance(node.right, ast.Constant)
                if isinstance(node, ast.Compare):
                    for sign, side in zip(node.ops, node.comparators):
                        if isinstance(sign, (ast.Is, ast.IsNot)):
                            self.assertIn(ast.dump(side), [ast.dump(ast.Constant(one)) for one in (None, True, False)])

    def test_classes(self):
        for name, text, tree in each_file():
            for one in classes_in(tree):
                self.assertIn(one, tree.body)
                self.assertEqual((one.decorator_list, one.keywords), ([], []))
                for base in one.bases:
                    self.assertIn(base.id, ERROR_BASES + module_names(tree))
                for node in one.body[1:]:
                    self.assertIsInstance(node, ast.FunctionDef)
            special = [node.name for node in functions_in(tree) if node.name.startswith("_")]
            self.assertEqual([one for one in special if one not in SPECIAL_METHODS], [])
            for node in functions_in(tree):
                self.assertEqual((node.decorator_list, node.args.posonlyargs), ([], []))

    def test_attributes(self):
        methods, attributes = [], []
        for name, text, tree in each_file():
            methods += method_names(tree)
            attributes += stored_attributes(tree)
        self.assertEqual(set(methods) & set(attributes), set())
        for attribute in set(attributes) - set(SHARED_ATTRIBUTES):
            for kind in (int, str, bytes, list, tuple, dict, set, BaseException):
                self.assertFalse(hasattr(kind, attribute), attribute)

    def test_methods(self):
        for name, text, tree in each_file():
            for method in method_names(tree):
                if method not in METHODS + SPECIAL_METHODS:
                    for kind in (int, str, bytes, list, tuple, dict, set, BaseException):
                        self.assertFalse(hasattr(kind, method), method)
            for node in functions_in(tree):
                if node.name in METHODS:
                    self.assertEqual(node.args.kwonlyargs, [], node.name)

    def test_attributes_that_are_read(self):
        known = list(METHODS) + ["__init__"]
        for name, text, tree in each_file():
            known += stored_attributes(tree) + method_names(tree)
        for name, text, tree in each_file():
            for node in ast.walk(tree):
                if isinstance(node, ast.Attribute):
                    self.assertIn(node.attr, known)

    def test_handlers(self):
        for name, text, tree in each_file():
            for node in ast.walk(tree):
                if isinstance(node, ast.ExceptHandler):
                    self.assertIsNone(node.name)
                    for one in names_in(node.type):
                        self.assertIn(one, own_errors())

    def test_raised_errors_are_made_on_the_spot(self):
        for name, text, tree in each_file():
            for node in ast.walk(tree):
                if isinstance(node, ast.Raise):
                    self.assertIn(called_name(node.exc), own_errors())
                    self.assertEqual(node.exc.keywords, [])
                    self.assertIn(ast.dump(node.cause) if node.cause else None, (None, ast.dump(ast.Constant(None))))

    def test_special_methods(self):
        for name, text, tree in each_file():
            for node in functions_in(tree):
                if node.name in ("__eq__", "__len__", "__str__"):
                    self.assertIsInstance(node.body[-1], ast.Return)
                    for part in ast.walk(node):
                        self.assertNotIsInstance(part, WRITING_NODES)
                    returned = [part.value for part in ast.walk(node) if isinstance(part, ast.Return)]
                    for value in returned:
                        if node.name == "__len__":
                            self.assertEqual(called_name(value), "len")
                        if node.name == "__str__":
                            self.assertIsInstance(value, ast.JoinedStr)
                if node.name == "__init__":
                    self.assertEqual([part for part in ast.walk(node) if isinstance(part, ast.Return)], [])

    def test_formatted_texts(self):
        for name, text, tree in each_file():
            for node in ast.walk(tree):
                if isinstance(node, ast.FormattedValue):
                    self.assertEqual((node.conversion, node.format_spec), (-1, None))
                    for part in ast.walk(node.value):
                        self.assertFalse(isinstance(part, ast.Constant) and isinstance(part.value, str))

    def test_no_stars_in_calls(self):
        for name, text, tree in each_file():
            for node in ast.walk(tree):
                if isinstance(node, ast.Call):
                    self.assertFalse([one for one in node.args if isinstance(one, ast.Starred)])
                    self.assertFalse([one for one in node.keywords if one.arg is None])

    def test_what_decks_bar(self):
        # Decks have a method add and their own ==, so sets are not filled and lists are not sorted in place.
        for name, text, tree in each_file():
            for node in ast.walk(tree):
                if isinstance(node, ast.Attribute):
                    self.assertNotIn(node.attr, ("sort", "discard"))

    def test_sets_are_not_kept(self):
        for name, text, tree in each_file():
            parents = parents_in(tree)
            for node in ast.walk(tree):
                if isinstance(node, (ast.Set, ast.SetComp)) or called_name(node) in ("set", "frozenset"):
                    self.assertIn(called_name(parents[node]), ("sorted", "len"))

    def test_iterated_at_once(self):
        for name, text, tree in each_file():
            parents = parents_in(tree)
            for node in ast.walk(tree):
                if called_name(node) in ("zip", "enumerate", "reversed", "range"):
                    above = parents[node]
                    turned = called_name(node) == "range" and called_name(above) == "reversed"
                    if not (isinstance(above, (ast.For, ast.comprehension)) and above.iter == node) and not turned:
                        self.assertIn(called_name(above), TAKES_ITERABLES)

    def test_loops_leave_alone_what_they_iterate_over(self):
        for name, text, tree in each_file():
            for node in ast.walk(tree):
                if isinstance(node, ast.For):
                    over = {one.id for one in ast.walk(node.iter) if isinstance(one, ast.Name)}
                    for part in node.body:
                        self.assertEqual(over & set(local_names(part)), set())
                        for one in ast.walk(part):
                            if isinstance(one, ast.Call) and isinstance(one.func, ast.Attribute):
                                self.assertNotIn(ast.unparse(one.func.value), over)

    def test_keywords_of_builtins(self):
        for name, text, tree in each_file():
            for node in ast.walk(tree):
                if called_name(node) in BUILTINS:
                    for keyword in node.keywords:
                        self.assertIn(keyword.arg, BUILTIN_KEYWORDS.get(called_name(node), ()))

    def test_imports_have_no_circle(self):
        left = {name[:-3]: imported_files(tree) for name, text, tree in each_file()}
        while left:
            free = [name for name, needed in left.items() if not set(needed) & set(left)]
            self.assertNotEqual(free, [], left)
            left = {name: needed for name, needed in left.items() if name not in free}

    def test_escapes(self):
        for name in package_files():
            with open(os.path.join(PACKAGE, name), "rb") as file:
                for token in tokenize.tokenize(file.readline):
                    if token.type == tokenize.STRING:
                        self.assertEqual(re.findall(r"\\[^nt\\'\"]", token.string), [])


if __name__ == "__main__":
    unittest.main()
