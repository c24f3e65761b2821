"""Rules of the language that can be read off the text of a file; the others are kept by eye."""

import ast
import os
import re
import unittest

TOP = os.path.dirname(os.path.dirname(os.path.abspath(__file__)))
PACKAGE = os.path.join(TOP, "frontjobs")

BUILTINS = """len range enumerate zip min max sum abs sorted reversed int str bool bytes list tuple dict set frozenset
    isinstance ord repr any all divmod iter next super property staticmethod classmethod Exception ValueError
    TypeError KeyError IndexError LookupError ZeroDivisionError ArithmeticError OverflowError RuntimeError
    NotImplementedError AttributeError StopIteration NotImplemented""".split()
# L17: these occur nowhere, not even in comments; the last three not inside longer words either.
BARRED = """type typing typing_extensions enum Enum IntEnum StrEnum Flag IntFlag Generic Protocol ABC ABCMeta
    namedtuple NamedTuple TypedDict TYPE_CHECKING abstractmethod""".split()
BARRED_INSIDE = ("dataclass", "overload", "contextmanager")
UNUSED = """register mro elements open input law version_info with_traceback add_note attrgetter breakpoint builtins
    compile copyright credits delattr dir eval exec exit gc getattr globals hasattr help id importlib license locals
    methodcaller os quit setattr super type vars sys format format_map""".split()
METHODS = """append clear copy count endswith extend find get index insert isalnum isalpha isdigit islower isspace
    isupper items join keys ljust lower lstrip partition pop remove replace reverse rfind rjust rpartition rsplit
    rstrip setdefault split splitlines startswith strip update upper values zfill bit_length add discard sort""".split()
DUNDERS = ("__init__", "__enter__", "__exit__", "__call__", "__len__", "__contains__", "__eq__")
NO_NODES = (
    ast.Global, ast.AsyncFunctionDef, ast.AsyncFor, ast.AsyncWith, ast.Await, ast.Div, ast.AnnAssign,
    ast.MatchClass, ast.MatchMapping, ast.MatchValue)


def sources():
    """The name and the text of each file of the package."""
    found = []
    for folder, folders, names in os.walk(PACKAGE):
        folders[:] = [name for name in folders if name != "__pycache__"]
        for name in sorted(names):
            path = os.path.join(folder, name)
            with open(path, encoding="utf-8", newline="") as file:
                found.append((os.path.relpath(path, TOP), file.read()))
    return found


def bound_names(tree):
    """Every name that is bound anywhere in a file."""
    names = []
    for node in ast.walk(tree):
        if isinstance(node, (ast.FunctionDef, ast.ClassDef)):
            names.append(node.name)
        elif isinstance(node, ast.arg):
            names.append(node.arg)
        elif isinstance(node, ast.alias):
            names.append(node.asname or node.name)
        elif isinstance(node, ast.Name) and isinstance(node.ctx, ast.Store):
            names.append(node.id)
    return names


def read_names(tree):
    return [node.id for node in ast.walk(tree) if isinstance(node, ast.Name) and isinstance(node.ctx, ast.Load)]


def is_set(node):
    if isinstance(node, ast.Call):
        return isinstance(node.func, ast.Name) and node.func.id in ("set", "frozenset")
    return isinstance(node, (ast.Set, ast.SetComp))


def stored_sets(function):
    """The local names that a function gives to sets."""
    assigned = [node for node in ast.walk(function) if isinstance(node, ast.Assign) and is_set(node.value)]
    return [target.id for node in assigned for target in node.targets]


def set_uses(node):
    """What in this node is a stored set if it is used as one may be."""
    if isinstance(node, ast.Expr) and isinstance(node.value, ast.Call) and isinstance(node.value.func, ast.Attribute):
        return [node.value.func.value] if node.value.func.attr in ("add", "discard") else []
    if isinstance(node, ast.Compare) and isinstance(node.ops[0], (ast.In, ast.NotIn)):
        return node.comparators
    if isinstance(node, ast.Call) and isinstance(node.func, ast.Name) and node.func.id in ("len", "sorted"):
        return node.args
    return []


class Language(unittest.TestCase):

    def setUp(self):
        self.files = [(name, text, ast.parse(text)) for name, text in sources()]

    def test_there_are_only_plain_files_of_python(self):
        self.assertIn(os.path.join("frontjobs", "__init__.py"), [name for name, _, _ in self.files])
        for name, _, _ in self.files:
            self.assertRegex(os.path.basename(name), r"^([a-z][a-z0-9_]*|__init__|__main__)\.py$")

    def test_sizes(self):
        for name, text, tree in self.files:
            lines = text.split("\n")
            self.assertLessEqual(len(lines), 399, name)
            self.assertLessEqual(max([len(line) for line in lines]), 120, name)
            for node in ast.walk(tree):
                if isinstance(node, ast.FunctionDef):
                    self.assertLessEqual(node.end_lineno - node.lineno + 1, 40, f"{name} {node.name}")

    def test_characters_and_words(self):
        for name, text, _ in self.files:
            self.assertRegex(text, r"\A[ -~\n]*\Z", name)
            words = re.findall(r"\w+", text)
            self.assertEqual([word for word in BARRED if word in words], [], name)
            self.assertEqual([word for word in BARRED_INSIDE if word in text], [], name)

    def test_strings(self):
        for name, _, tree in self.files:
            for node in ast.walk(tree):
                if isinstance(node, ast.Constant):
                    self.assertNotIsInstance(node.value, (float, complex), f"{name}:{node.lineno}")
                    if isinstance(node.value, str):
                        self.assertNotIn("%", node.value, f"{name}:{node.lineno}")

    def test_imports(self):
        homes = {}
        for name, _, tree in self.files:
            module = name[:-3].replace(os.sep, ".")
            homes[module] = [node.name for node in tree.body if isinstance(node, (ast.FunctionDef, ast.ClassDef))]
            homes[module] += [node.targets[0].id for node in tree.body if isinstance(node, ast.Assign)]
        for name, _, tree in self.files:
            for node in ast.walk(tree):
                self.assertNotIsInstance(node, ast.Import, name)
                if isinstance(node, ast.ImportFrom):
                    self.assertEqual((node.level, node in tree.body), (0, True), name)
                    for alias in node.names:
                        self.assertIn(alias.name, homes[node.module], name)

    def test_module_level(self):
        allowed = (ast.ImportFrom, ast.FunctionDef, ast.ClassDef, ast.Assign)
        for name, _, tree in self.files:
            self.assertIsNotNone(ast.get_docstring(tree), name)
            for node in tree.body[1:]:
                self.assertIsInstance(node, allowed, f"{name}:{node.lineno}")
                if isinstance(node, ast.Assign):
                    self.assertEqual([target.__class__ for target in node.targets], [ast.Name], name)
                    if isinstance(node.value, ast.Dict):
                        # Its values may be functions that are defined above.
                        above = [one.name for one in tree.body if isinstance(one, ast.FunctionDef) and
                                 one.lineno < node.lineno]
                        self.assertEqual([one.id for one in node.value.values if one.id not in above], [], name)
                        self.assertEqual([one.__class__ for one in node.value.keys], [ast.Constant] * len(node.value.keys))
                    else:
                        ast.literal_eval(node.value)

    def test_names(self):
        for name, _, tree in self.files:
            bound = bound_names(tree)
            for word in bound + [node.attr for node in ast.walk(tree) if isinstance(node, ast.Attribute)]:
                self.assertRegex(word, r"^([A-Za-z][A-Za-z0-9_]*|__[a-z]+__)$", name)
            self.assertEqual([word for word in bound if word in UNUSED + BUILTINS], [], name)
            self.assertEqual([word for word in read_names(tree) if word not in bound + BUILTINS], [], name)

    def test_no_name_of_an_import_or_a_class_means_something_else(self):
        for name, _, tree in self.files:
            taken = [alias.name for node in tree.body if isinstance(node, ast.ImportFrom) for alias in node.names]
            taken += [node.name for node in tree.body if isinstance(node, ast.ClassDef)]
            for node in ast.walk(tree):
                if isinstance(node, ast.FunctionDef):
                    inside = [word for statement in node.body for word in bound_names(statement)]
                    inside += bound_names(node.args)
                    self.assertEqual([word for word in inside if word in taken], [], f"{name} {node.name}")

    def test_each_name_is_bound_once_and_each_import_is_used(self):
        for name, _, tree in self.files:
            bound = []
            for node in tree.body:
                if isinstance(node, ast.ImportFrom):
                    imported = [alias.name for alias in node.names]
                    self.assertEqual([word for word in imported if word not in read_names(tree)], [], name)
                    bound += imported
                elif isinstance(node, (ast.FunctionDef, ast.ClassDef)):
                    bound.append(node.name)
                elif isinstance(node, ast.Assign):
                    bound.append(node.targets[0].id)
            self.assertEqual(sorted(bound), sorted(set(bound)), name)

    def test_no_two_files_import_from_each_other(self):
        above = {}
        for name, _, tree in self.files:
            module = name[:-3].replace(os.sep, ".")
            above[module] = [node.module for node in tree.body if isinstance(node, ast.ImportFrom)]
        while above:
            free = [module for module, needs in above.items() if not any([need in above for need in needs])]
            self.assertNotEqual(free, [], above)
            for module in free:
                del above[module]

    def test_stored_sets(self):
        # L24: assigned once, then added to, asked with "in", counted or sorted, and nothing else.
        for name, _, tree in self.files:
            for function in ast.walk(tree):
                if isinstance(function, ast.FunctionDef):
                    for word in stored_sets(function):
                        uses = [node for node in ast.walk(function) if isinstance(node, ast.Name) and node.id == word]
                        allowed = [use for node in ast.walk(function) for use in set_uses(node)]
                        self.assertEqual(len([use for use in uses if use not in allowed]), 1, f"{name} {word}")

    def test_methods(self):
        own = [node.name for _, _, tree in self.files for node in ast.walk(tree) if isinstance(node, ast.FunctionDef)]
        for name, _, tree in self.files:
            for node in ast.walk(tree):
                if isinstance(node, ast.Call) and isinstance(node.func, ast.Attribute):
                    self.assertIn(node.func.attr, METHODS + own, f"{name}:{node.lineno}")

    def test_classes(self):
        stored, methods = [], []
        for name, _, tree in self.files:
            for node in ast.walk(tree):
                if isinstance(node, ast.Attribute) and isinstance(node.ctx, ast.Store):
                    stored.append(node.attr)
                if isinstance(node, ast.ClassDef):
                    inside = [one for one in node.body if isinstance(one, ast.FunctionDef)]
                    methods += [one.name for one in inside]
                    self.assertEqual(len(inside), len(set([one.name for one in inside])), name)
                    for one in inside:
                        if one.name.startswith("__"):
                            self.assertIn(one.name, DUNDERS, name)
                        self.assertIn([ast.unparse(sign) for sign in one.decorator_list], ([], ["property"]), name)
                elif isinstance(node, ast.Module):
                    for one in node.body:
                        self.assertEqual(getattr(one, "decorator_list", []), [], name)
        # L18, and L24 and L25: those of sets and lists would bar much elsewhere.
        self.assertEqual([word for word in methods if word in stored], [])
        self.assertEqual([word for word in methods if word in ("add", "discard", "sort", "append", "clear")], [])

    def test_attributes_are_assigned_through_a_local_name(self):
        for name, _, tree in self.files:
            for node in ast.walk(tree):
                if isinstance(node, ast.Attribute) and isinstance(node.ctx, ast.Store):
                    holder = node.value
                    while isinstance(holder, ast.Attribute):
                        holder = holder.value
                    self.assertIsInstance(holder, ast.Name, f"{name}:{node.lineno}")

    def test_no_generators(self):
        # L7: a package with a class that has __eq__ takes lists instead.
        for name, _, tree in self.files:
            for node in ast.walk(tree):
                self.assertNotIsInstance(node, (ast.GeneratorExp, ast.Yield, ast.YieldFrom), name)

    def test_handlers(self):
        # L19: own errors may be caught wherever they come from.
        own = [node.name for _, _, tree in self.files for node in ast.walk(tree) if isinstance(node, ast.ClassDef)]
        for name, _, tree in self.files:
            for node in ast.walk(tree):
                if isinstance(node, ast.ExceptHandler):
                    caught = node.type.elts if isinstance(node.type, ast.Tuple) else [node.type]
                    self.assertEqual([one.id for one in caught if one.id not in own], [], name)

    def test_nodes(self):
        for name, _, tree in self.files:
            for node in ast.walk(tree):
                self.assertNotIsInstance(node, NO_NODES, f"{name}:{getattr(node, 'lineno', 0)}")
                if isinstance(node, ast.ClassDef):
                    self.assertEqual(node.decorator_list, [], name)
                if isinstance(node, ast.Compare):
                    for sign, other in zip(node.ops, node.comparators):
                        if isinstance(sign, (ast.Is, ast.IsNot)):
                            self.assertIn(getattr(other, "value", 0), (None, True, False), name)

    def test_raised_errors_are_made_on_the_spot(self):
        for name, _, tree in self.files:
            for node in ast.walk(tree):
                if isinstance(node, ast.Raise) and node.exc is not None:
                    self.assertIsInstance(node.exc, ast.Call, f"{name}:{node.lineno}")
                    self.assertIsInstance(node.exc.func, ast.Name, f"{name}:{node.lineno}")


if __name__ == "__main__":
    unittest.main()
