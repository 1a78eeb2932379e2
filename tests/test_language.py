"""Whether the package keeps to its small part of Python, as far as that is seen from each file's tree.

Each test names the rules that it looks after.
"""

import ast
import builtins
import io
import pathlib
import re
import tokenize
import unittest

TOP = pathlib.Path(__file__).resolve().parent.parent
PACKAGE = TOP / "stephall"

ALLOWED_NODES = set(
    "Module Expr ImportFrom alias FunctionDef ClassDef arguments arg Lambda Return Assign AugAssign Delete For While If "
    "Raise Try ExceptHandler Assert Pass Break Continue BoolOp BinOp UnaryOp IfExp Dict Set ListComp SetComp DictComp "
    "comprehension Compare Call keyword FormattedValue JoinedStr Constant Attribute Subscript Slice Starred Name List "
    "Tuple Load Store Del And Or Add Sub Mult FloorDiv Mod Pow LShift RShift BitOr BitXor BitAnd Invert Not USub Eq "
    "NotEq Lt LtE Gt GtE Is IsNot In NotIn".split()
)
OWN_NAMES = set(
    "len range enumerate zip min max sum abs sorted reversed int str bool bytes list tuple dict set frozenset "
    "isinstance ord repr any all divmod ValueError TypeError KeyError IndexError LookupError ZeroDivisionError "
    "ArithmeticError OverflowError RuntimeError NotImplementedError AttributeError StopIteration Exception".split()
)
METHODS = set(
    "append clear copy count endswith extend find get index insert isalnum isalpha isdigit islower isspace isupper "
    "items join keys ljust lower lstrip partition pop remove replace reverse rfind rjust rpartition rsplit rstrip "
    "setdefault split splitlines startswith strip update upper values zfill bit_length title capitalize swapcase "
    "casefold center expandtabs removeprefix removesuffix rindex isascii isdecimal isnumeric istitle isidentifier "
    "isprintable sort add discard".split()
)
WORDS_OUT = (
    "type typing typing_extensions enum Enum IntEnum StrEnum Flag IntFlag Generic Protocol ABC ABCMeta namedtuple "
    "NamedTuple TypedDict TYPE_CHECKING abstractmethod"
).split()
NAMES_OUT = set(
    "register mro elements open input version_info with_traceback add_note attrgetter breakpoint builtins compile "
    "copyright credits delattr dir eval exec exit gc getattr globals hasattr help id importlib license locals "
    "methodcaller os quit setattr super type vars sys format format_map args".split()
)
# What may walk a zip, a range and their like that are written within it.
WALKERS = ("list", "tuple", "dict", "sorted", "sum", "any", "all", "enumerate", "zip", "bytes", "min", "max")
KEYWORDS = {
    "sorted": {"key", "reverse"}, "min": {"key", "default"}, "max": {"key", "default"}, "sum": {"start"},
    "enumerate": {"start"}, "zip": {"strict"},
}
# These stand by isinstance, raise, except or as a base, too.
CLASSES = {name for name in OWN_NAMES if isinstance(getattr(builtins, name), type)}
CLASSES -= {"range", "enumerate", "zip", "reversed"}
DUNDERS = {"__init__", "__eq__", "__repr__", "__str__", "__len__"}
# What Python's own values have and L25 does not list: no own method or value may be called so.
VALUE_NAMES = {name for kind in (str, int, list, dict, set, bytes) for name in dir(kind)}


def sources():
    return sorted(path for path in PACKAGE.rglob("*") if path.is_file() and "__pycache__" not in path.parts)


def nodes(path, *kinds):
    return [node for node in ast.walk(ast.parse(path.read_text())) if isinstance(node, kinds)]


def methods_of(path):
    classes = nodes(path, ast.ClassDef)
    return {row.name for one in classes for row in one.body if isinstance(row, ast.FunctionDef)}


def values_of(path):
    return {node.attr for node in nodes(path, ast.Attribute) if isinstance(node.ctx, ast.Store)}


class Language(unittest.TestCase):
    def each(self, *kinds):
        """Each node of these kinds, with the place to tell of it."""
        for path in sources():
            for node in nodes(path, *kinds):
                yield f"{path.name}:{getattr(node, 'lineno', 0)}", node

    def test_files(self):
        """L1, L14."""
        self.assertIn(PACKAGE / "__init__.py", sources())
        for path in sources():
            self.assertRegex(path.name, r"^([a-z][a-z0-9_]*|__init__|__main__)\.py$")
            if not path.name.startswith("__"):
                self.assertFalse(hasattr(builtins, path.stem), path.name)

    def test_signs_and_sizes(self):
        """L10, L14."""
        for path in sources():
            rows = path.read_text(encoding="ascii").split("\n")
            self.assertLessEqual(len(rows), 400, path.name)
            for row in rows:
                self.assertLessEqual(len(row), 120, path.name)
                self.assertRegex(row, r"^[ -~]*$", path.name)

    def test_functions_are_short(self):
        """L10."""
        for place, node in self.each(ast.FunctionDef):
            self.assertLessEqual(node.end_lineno - node.lineno + 1, 40, place)

    def test_words_that_stand_nowhere(self):
        """L17."""
        for path in sources():
            words = set(re.findall(r"\w+", path.read_text()))
            self.assertEqual(words.intersection(WORDS_OUT), set(), path.name)
            self.assertNotRegex(path.read_text(), "dataclass|overload|contextmanager", path.name)

    def test_forms(self):
        """L6, L7: no other statement or expression than those told."""
        for place, node in self.each(ast.AST):
            self.assertIn(type(node).__name__, ALLOWED_NODES, place)

    def test_functions(self):
        """L4, L5: no decorator, no star but the bare one, plain defaults."""
        for place, node in self.each(ast.FunctionDef, ast.ClassDef):
            self.assertEqual(node.decorator_list, [], place)
        for place, node in self.each(ast.arguments):
            self.assertEqual((node.vararg, node.kwarg, node.posonlyargs), (None, None, []), place)

    def test_tops(self):
        """L3, L5, L15: what stands at a file's top and in a class, and each name once."""
        for path in sources():
            tree = ast.parse(path.read_text())
            bound = []
            for row in tree.body:
                self.assertIsInstance(row, (ast.Expr, ast.ImportFrom, ast.FunctionDef, ast.ClassDef, ast.Assign))
                if isinstance(row, ast.Expr):
                    self.assertIs(row, tree.body[0], path.name)
                elif isinstance(row, ast.ImportFrom):
                    bound += [name.asname or name.name for name in row.names]
                elif isinstance(row, ast.Assign):
                    self.assertEqual(len(row.targets), 1)
                    bound.append(row.targets[0].id)
                else:
                    bound.append(row.name)
            self.assertEqual(len(bound), len(set(bound)), path.name)
            self.assertIsNotNone(ast.get_docstring(tree), path.name)
        for place, node in self.each(ast.ClassDef):
            self.assertLessEqual(len(node.bases), 1, place)
            for row in node.body:
                self.assertIsInstance(row, (ast.FunctionDef, ast.Expr, ast.Pass), place)

    def test_tables(self):
        """L3, L15: a table of a file's top holds plain values, tuples and functions from above, and is only read."""
        for path in sources():
            above, tables = set(), set()
            for row in ast.parse(path.read_text()).body:
                if isinstance(row, ast.FunctionDef):
                    above.add(row.name)
                if isinstance(row, ast.Assign):
                    if isinstance(row.value, (ast.Dict, ast.List)):
                        tables.add(row.targets[0].id)
                    for node in list(ast.walk(row.value))[1:]:
                        self.assertNotIsInstance(node, (ast.Dict, ast.List, ast.Call), f"{path.name}:{row.lineno}")
                        if isinstance(node, ast.Name):
                            self.assertIn(node.id, above, f"{path.name}:{row.lineno}")
            for node in nodes(path, ast.Subscript):
                if isinstance(node.value, ast.Name) and node.value.id in tables:
                    self.assertIsInstance(node.ctx, ast.Load, f"{path.name}:{node.lineno}")

    def test_imports(self):
        """L2, L16: from the very file that defines the name, and no two files from one another."""
        drawn = {}
        for path in sources():
            module = f"stephall.{path.stem}"
            drawn[module] = set()
            for node in nodes(path, ast.ImportFrom):
                self.assertEqual(node.level, 0, path.name)
                self.assertRegex(node.module, r"^stephall\.[a-z_0-9]+$", path.name)
                tree = ast.parse((PACKAGE / f"{node.module.split('.')[1]}.py").read_text())
                there = {row.name for row in tree.body if isinstance(row, (ast.FunctionDef, ast.ClassDef))}
                there |= {row.targets[0].id for row in tree.body if isinstance(row, ast.Assign)}
                for name in node.names:
                    self.assertIn(name.name, there, path.name)
                drawn[module].add(node.module)
        while drawn:
            last = [module for module, others in drawn.items() if not others & set(drawn)]
            self.assertTrue(last, f"drawn in a ring: {sorted(drawn)}")
            for module in last:
                del drawn[module]

    def test_names(self):
        """L8, L12, L15, L17: plain names, of Python's own the listed ones alone, none given another meaning."""
        given = [(place, node.name) for place, node in self.each(ast.FunctionDef, ast.ClassDef)]
        given += [(place, node.arg) for place, node in self.each(ast.arg)]
        given += [(place, node.id) for place, node in self.each(ast.Name) if isinstance(node.ctx, ast.Store)]
        for place, name in given:
            if name not in DUNDERS:
                self.assertRegex(name, r"^[A-Za-z][A-Za-z0-9_]*$", place)
            self.assertNotIn(name, NAMES_OUT, place)
        for path in sources():
            methods = methods_of(path)
            for place, name in given:
                if place.startswith(f"{path.name}:") and name not in methods:
                    self.assertFalse(hasattr(builtins, name), f"{place} {name}")
        for place, node in self.each(ast.Name):
            if hasattr(builtins, node.id):
                self.assertIn(node.id, OWN_NAMES, place)

    def test_attributes(self):
        """L18, L25, L26: own methods and values, or those of Python's own values that are listed."""
        own_methods = set().union(*[methods_of(path) for path in sources()])
        own_values = set().union(*[values_of(path) for path in sources()])
        self.assertEqual(own_methods & own_values, set())
        self.assertEqual((own_methods - DUNDERS) & (VALUE_NAMES - METHODS), set())
        self.assertEqual(own_values & VALUE_NAMES, set())
        for place, node in self.each(ast.Attribute):
            self.assertIn(node.attr, own_methods | own_values | METHODS, place)

    def test_texts(self):
        """L7, L27: no float, no percent sign and no odd escape in a text, no format in braces."""
        for place, node in self.each(ast.Constant):
            self.assertIsInstance(node.value, (int, str, bytes, type(None)), place)
            if isinstance(node.value, str):
                self.assertNotIn("%", node.value, place)
        for place, node in self.each(ast.FormattedValue):
            self.assertIsNone(node.format_spec, place)
        for path in sources():
            for token in tokenize.generate_tokens(io.StringIO(path.read_text()).readline):
                if "STRING" in tokenize.tok_name[token.type]:
                    self.assertEqual(re.sub(r"\\[nt\\'\"]", "", token.string).count("\\"), 0, path.name)

    def test_is(self):
        """L20: `is` beside None, True and False alone."""
        for place, node in self.each(ast.Compare):
            if isinstance(node.ops[0], (ast.Is, ast.IsNot)):
                self.assertIsInstance(node.comparators[0], ast.Constant, place)
                self.assertIn(node.comparators[0].value, (None, True, False), place)

    def test_errors(self):
        """L19: errors are made where they are raised, and never all of them taken."""
        for place, node in self.each(ast.Raise):
            if node.exc is not None:
                self.assertIsInstance(node.exc, ast.Call, place)
                self.assertIsInstance(node.exc.func, ast.Name, place)
        for place, node in self.each(ast.ExceptHandler):
            self.assertIsNotNone(node.type, place)
            self.assertNotIn(ast.unparse(node.type), ("Exception", "TypeError", "()"), place)

    def test_walked_at_once(self):
        """L23: what is walked but once is walked on the spot."""
        for place, above, node in self.each_call():
            name = node.func.id if isinstance(node.func, ast.Name) else node.func.attr
            if name in ("zip", "enumerate", "reversed", "range", "items", "keys", "values"):
                if isinstance(above, (ast.For, ast.comprehension)):
                    self.assertIs(above.iter, node, place)
                else:
                    self.assertIsInstance(above, ast.Call, place)
                    self.assertIn(ast.unparse(above.func), WALKERS, place)
                    self.assertIs(above.args[0], node, place)

    def test_sets(self):
        """L24, narrower than told there: sets are asked on the spot and not kept."""
        for path in sources():
            for above in nodes(path, ast.AST):
                for node in ast.iter_child_nodes(above):
                    made = isinstance(node, ast.Call) and ast.unparse(node.func) in ("set", "frozenset")
                    if made or isinstance(node, (ast.Set, ast.SetComp)):
                        place = f"{path.name}:{node.lineno}"
                        self.assertIsInstance(above, (ast.Call, ast.Compare), place)
                        if isinstance(above, ast.Call):
                            self.assertIn(ast.unparse(above.func), ("len", "sorted"), place)

    def test_own_names_are_called(self):
        """L22: Python's own names are called, not kept; keywords stand where they are told."""
        for place, above, node in self.each_call():
            if isinstance(node.func, ast.Name) and node.func.id in OWN_NAMES:
                words = {word.arg for word in node.keywords}
                self.assertLessEqual(words, KEYWORDS.get(node.func.id, set()), place)
        for path in sources():
            tree = nodes(path, ast.AST)
            called = [node.func for node in tree if isinstance(node, ast.Call)]
            for node in tree:
                if isinstance(node, ast.Name) and node.id in OWN_NAMES - CLASSES:
                    self.assertIn(node, called, f"{path.name}:{node.lineno}")

    def test_two_underscores(self):
        """L28: no method with two underscores but the one that makes an object, and it gives back nothing."""
        for place, node in self.each(ast.FunctionDef):
            if node.name.startswith("__"):
                self.assertEqual(node.name, "__init__", place)
                self.assertEqual([row for row in ast.walk(node) if isinstance(row, ast.Return)], [], place)

    def each_call(self):
        """Each call, with its place and what it stands in."""
        for path in sources():
            for above in nodes(path, ast.AST):
                for node in ast.iter_child_nodes(above):
                    if isinstance(node, ast.Call):
                        yield f"{path.name}:{node.lineno}", above, node


if __name__ == "__main__":
    unittest.main()
