"""The form of the package: the rules for its files that can be seen in them."""

import ast
import builtins
import io
import os
import re
import tokenize
import unittest

FOLDER = os.path.join(os.path.dirname(os.path.dirname(os.path.abspath(__file__))), "scribeself")

BUILTINS = set("""len range enumerate zip min max sum abs sorted reversed int str bool bytes list tuple dict set
isinstance ord repr any all divmod ValueError KeyError IndexError""".split())

METHODS = set("""append clear copy count endswith extend find get index insert isalnum isalpha isdigit islower isspace
isupper items join keys ljust lower lstrip partition pop remove replace reverse rfind rjust rpartition rsplit rstrip
setdefault split splitlines startswith strip update upper values zfill bit_length""".split())

BARRED_NAMES = set("""register mro elements open input law version_info with_traceback add_note attrgetter breakpoint
builtins compile copyright credits delattr dir eval exec exit gc getattr globals hasattr help id importlib license
locals methodcaller os quit setattr super type vars sys""".split())

BARRED_WORDS = set("""type typing typing_extensions enum Enum IntEnum StrEnum Flag IntFlag Generic Protocol ABC ABCMeta
namedtuple NamedTuple TypedDict TYPE_CHECKING abstractmethod dataclass overload contextmanager""".split())

HEAPS = {"heapify", "heappop", "heappush"}

STATEMENTS = (ast.FunctionDef, ast.ClassDef, ast.Assign, ast.AugAssign, ast.If, ast.While, ast.For, ast.Return,
              ast.Break, ast.Continue, ast.Pass, ast.Raise, ast.Assert, ast.Delete, ast.Try, ast.Expr, ast.ImportFrom)

# What the package does not need, though the language rules would allow some of it.
UNUSED = (ast.Yield, ast.YieldFrom, ast.GeneratorExp, ast.Lambda, ast.NamedExpr, ast.JoinedStr, ast.Div)


def files():
    return sorted(os.listdir(FOLDER))


def source(name):
    with open(os.path.join(FOLDER, name), encoding="utf-8") as file:
        return file.read()


def bound_at_top(tree):
    """The names that are bound at module level, in order."""
    names = []
    for node in tree.body:
        if isinstance(node, (ast.FunctionDef, ast.ClassDef)):
            names.append(node.name)
        elif isinstance(node, ast.ImportFrom):
            names.extend(alias.asname or alias.name for alias in node.names)
        elif isinstance(node, ast.Assign):
            names.extend(target.id for target in node.targets)
    return names


def local_names(function):
    """The parameters and local variables of a function."""
    names = [arg.arg for arg in function.args.args]
    return names + [node.id for node in ast.walk(function)
                    if isinstance(node, ast.Name) and isinstance(node.ctx, ast.Store)]


class FormTest(unittest.TestCase):
    def setUp(self):
        self.trees = {name: ast.parse(source(name)) for name in files()}

    def each(self, kinds):
        """All nodes of some kinds, with the place where they stand."""
        for name, tree in self.trees.items():
            for node in ast.walk(tree):
                if isinstance(node, kinds):
                    yield name + ":" + str(getattr(node, "lineno", 0)), node

    def test_files(self):
        self.assertIn("__init__.py", files())
        self.assertLessEqual(len(files()), 100)
        for name in files():
            self.assertRegex(name, "^[a-z0-9_]+[.]py$")
            self.assertFalse(name[:-3] in vars(builtins), name)

    def test_sizes_and_characters(self):
        for name in files():
            lines = source(name).split("\n")
            self.assertLess(len(lines) - 1, 400, name)
            for at, line in enumerate(lines):
                self.assertLessEqual(len(line), 120, (name, at + 1))
                self.assertRegex(line, "^[ -~]*$", (name, at + 1))
        for place, function in self.each(ast.FunctionDef):
            self.assertLessEqual(function.end_lineno - function.lineno + 1, 40, place)

    def test_statements(self):
        for place, node in self.each(ast.stmt):
            self.assertIsInstance(node, STATEMENTS, place)
        for place, node in self.each(UNUSED):
            self.fail(place)
        for place, node in self.each((ast.FunctionDef, ast.ClassDef)):
            self.assertEqual(node.decorator_list, [], place)
        for place, node in self.each(ast.ExceptHandler):
            self.assertIsNotNone(node.type, place)
        for place, node in self.each(ast.Raise):
            self.assertIsInstance(node.exc, ast.Call, place)

    def test_module_level(self):
        for name, tree in self.trees.items():
            self.assertIsNotNone(ast.get_docstring(tree), name)
            for node in tree.body[1:]:
                self.assertIsInstance(node, (ast.ImportFrom, ast.FunctionDef, ast.ClassDef, ast.Assign), name)
                if isinstance(node, ast.Assign):
                    self.assertEqual(len(node.targets), 1, name)
            names = bound_at_top(tree)
            self.assertEqual(len(names), len(set(names)), name)

    def test_imports(self):
        below = {}
        for name, tree in self.trees.items():
            below[name] = []
            for node in ast.walk(tree):
                if isinstance(node, ast.ImportFrom) and node.module == "heapq":
                    self.assertLessEqual({alias.name for alias in node.names}, HEAPS, name)
                elif isinstance(node, ast.ImportFrom):
                    self.assertTrue(node.module.startswith("scribeself.") and node.level == 0, name)
                    other = node.module.split(".")[1] + ".py"
                    below[name].append(other)
                    own = [n.name for n in self.trees[other].body if isinstance(n, (ast.FunctionDef, ast.ClassDef))]
                    own += [n.targets[0].id for n in self.trees[other].body if isinstance(n, ast.Assign)]
                    for alias in node.names:
                        self.assertIn(alias.name, own, name)
                        self.assertRegex(source(name), "(?s)import.*\\b" + alias.name + "\\b.*\\b" + alias.name + "\\b")
        done = []
        while len(done) < len(below):
            more = [name for name in below if name not in done and all(other in done for other in below[name])]
            self.assertNotEqual(more, [], "files import each other")
            done.extend(more)

    def test_names(self):
        for name, tree in self.trees.items():
            outside = [n.name for n in tree.body if isinstance(n, ast.ClassDef)]
            for node in tree.body:
                if isinstance(node, ast.ImportFrom):
                    outside.extend(alias.name for alias in node.names)
            for node in ast.walk(tree):
                if isinstance(node, ast.FunctionDef):
                    for local in local_names(node):
                        self.assertNotIn(local, outside, name)
                        self.assertFalse(hasattr(builtins, local), (name, local))
        words = [(place, node.id) for place, node in self.each(ast.Name)]
        words += [(place, node.name) for place, node in self.each((ast.FunctionDef, ast.ClassDef))]
        words += [(place, node.attr) for place, node in self.each(ast.Attribute)]
        words += [(place, node.arg) for place, node in self.each(ast.arg)]
        for place, word in words:
            self.assertNotIn(word, BARRED_NAMES, place)
            self.assertTrue(word == "__init__" or not word.startswith("__"), place)

    def test_builtins_and_methods(self):
        own = {node.name for _, node in self.each(ast.FunctionDef)}
        for place, node in self.each(ast.Name):
            if hasattr(builtins, node.id):
                self.assertIn(node.id, BUILTINS, place)
        for place, node in self.each(ast.Call):
            if isinstance(node.func, ast.Attribute):
                self.assertIn(node.func.attr, METHODS | own, place)
            for keyword in node.keywords:
                self.assertIn(keyword.arg, ("key", "default", "reverse"), place)

    def test_attributes(self):
        assigned = {node.attr for _, node in self.each(ast.Attribute) if isinstance(node.ctx, ast.Store)}
        called = {id(node.func) for _, node in self.each(ast.Call)}
        for place, node in self.each(ast.Attribute):
            if isinstance(node.ctx, ast.Load) and id(node) not in called:
                self.assertIn(node.attr, assigned, place)
            if isinstance(node.ctx, ast.Store):
                self.assertTrue(isinstance(node.value, ast.Name) and node.value.id == "self", place)

    def test_sets_stand_where_they_are_used_up(self):
        used = set()
        for _, node in self.each(ast.Call):
            if isinstance(node.func, ast.Name) and node.func.id in ("sorted", "len") and not node.keywords:
                used.update(id(arg) for arg in node.args)
        for place, node in self.each((ast.Set, ast.SetComp)):
            self.assertIn(id(node), used, place)
        for place, node in self.each(ast.Call):
            if isinstance(node.func, ast.Name) and node.func.id == "set":
                self.assertIn(id(node), used, place)

    def test_comparisons_by_identity(self):
        for place, node in self.each(ast.Compare):
            for operator, other in zip(node.ops, node.comparators):
                if isinstance(operator, (ast.Is, ast.IsNot)):
                    self.assertTrue(isinstance(other, ast.Constant) and other.value in (None, True, False), place)

    def test_constants(self):
        for place, node in self.each(ast.Constant):
            self.assertNotIsInstance(node.value, (float, complex, bytes), place)
            if isinstance(node.value, str):
                self.assertNotIn("%", node.value, place)
                self.assertFalse(node.value.endswith(("._", ".__")), place)

    def test_words(self):
        for name in files():
            for token in tokenize.generate_tokens(io.StringIO(source(name)).readline):
                is_text = token.type == tokenize.STRING and not token.string.startswith('"""')
                if token.type == tokenize.NAME or is_text:
                    for word in re.findall("[A-Za-z_0-9]+", token.string):
                        self.assertNotIn(word, BARRED_WORDS, (name, token.start))
                if token.type == tokenize.STRING:
                    for escape in re.findall(r"\\.", token.string):
                        self.assertIn(escape, ("\\n", "\\t", "\\\\", "\\'", '\\"'), (name, token.start))


if __name__ == "__main__":
    unittest.main()
