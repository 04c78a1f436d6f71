"""What the interface and the rules of the language ask of the package's files themselves."""

import ast
import builtins
import inspect
import pathlib
import re
import unittest

from lanedesk import lanes

PACKAGE = pathlib.Path(lanes.__file__).parent
FILES = sorted(PACKAGE.glob("*.py"))

ALLOWED = set("""len range enumerate zip min max sum abs sorted reversed int str bool list tuple dict set frozenset
isinstance ord repr any all divmod Exception ValueError TypeError KeyError IndexError LookupError ZeroDivisionError
ArithmeticError OverflowError RuntimeError NotImplementedError""".split())

METHODS = set("""append clear copy count endswith extend find get index insert isalnum isalpha isdigit islower isspace
isupper items join keys ljust lower lstrip partition pop remove replace reverse rfind rjust rpartition rsplit rstrip
setdefault split splitlines startswith strip update upper values zfill bit_length""".split())

WORDS_OUT = set("""type typing typing_extensions enum Enum IntEnum StrEnum Flag IntFlag Generic Protocol ABC ABCMeta
namedtuple NamedTuple TypedDict TYPE_CHECKING abstractmethod""".split())


def defined(tree):
    """The names that a file's top gives a def, a class or a plain value."""
    names = {node.name for node in tree.body if isinstance(node, (ast.FunctionDef, ast.ClassDef))}
    return names | {target.id for node in tree.body if isinstance(node, ast.Assign) for target in node.targets}


def own_attributes(tree):
    """The methods of a file's classes and the values that these give their objects."""
    names = set()
    for one in ast.walk(tree):
        if isinstance(one, ast.ClassDef):
            names |= {node.name for node in ast.walk(one) if isinstance(node, ast.FunctionDef)}
            names |= {node.attr for node in ast.walk(one)
                      if isinstance(node, ast.Attribute) and isinstance(node.ctx, ast.Store)}
    return names


class Interface(unittest.TestCase):
    def test_names_and_arguments(self):
        self.assertEqual(list(inspect.signature(lanes.times).parameters), ["g", "x"])
        self.assertEqual(list(inspect.signature(lanes.glide).parameters), ["start", "u", "v", "x"])
        self.assertEqual(list(inspect.signature(lanes.mix).parameters), ["n", "x", "g"])
        self.assertEqual(list(inspect.signature(lanes.peak).parameters), ["x"])
        self.assertEqual(list(inspect.signature(lanes.gain).parameters), ["p"])
        self.assertEqual(list(inspect.signature(lanes.position).parameters), ["g"])
        self.assertEqual(list(inspect.signature(lanes.pan).parameters), ["p"])
        self.assertEqual(list(inspect.signature(lanes.judge).parameters), ["l"])
        self.assertEqual(list(inspect.signature(lanes.at).parameters), ["tick", "l"])
        self.assertEqual(list(inspect.signature(lanes.row).parameters), ["tick", "n", "l"])
        self.assertEqual(list(inspect.signature(lanes.pass_of).parameters),
                         ["a", "b", "mode", "back", "gain", "l", "e"])
        self.assertEqual(list(inspect.signature(lanes.heard).parameters),
                         ["a", "b", "mode", "back", "gain", "tick", "l", "e"])
        self.assertEqual(list(inspect.signature(lanes.paste).parameters), ["start", "many", "to", "l", "k"])
        self.assertEqual(list(inspect.signature(lanes.cut).parameters), ["start", "many", "l"])
        self.assertEqual(list(inspect.signature(lanes.open_of).parameters), ["start", "many", "l"])

    def test_arguments_by_name(self):
        self.assertEqual(lanes.times(x=[4], g=8192), [1, 0, 3, 2, 0, 1])
        self.assertEqual(lanes.glide(x=[4], v=0, u=8192, start=0), [1, 0, 3, 2, 0, 1])
        self.assertEqual(lanes.mix(g=[8192], x=[4], n=1), [1, 0, 3, 2, 0, 1])
        self.assertEqual(lanes.peak(x=[-4]), [1, 0, 3, 4, 1, 0])
        self.assertEqual(lanes.gain(p=768), [16384, 0, 0])
        self.assertEqual(lanes.position(g=16384), [768, 0, 0])
        self.assertEqual(lanes.pan(p=64), [0, 0, 2, 0, 16384])
        self.assertEqual(lanes.judge(l=[7, 0, 0, 0]), [0, 0, 3, 7, 0, 0])
        self.assertEqual(lanes.at(l=[7, 0, 0, 0], tick=9), [7, 0, 0])
        self.assertEqual(lanes.row(l=[7, 0, 0, 0], n=2, tick=9), [2, 0, 2, 7, 7])
        self.assertEqual(lanes.pass_of(e=[4, 1, 9], l=[7, 0, 0, 0], gain=8, back=2, mode=3, b=16777216, a=4),
                         [10, 10, 7, 0, 1, 0, 4, 0, 0, 0, 9, 0, 0])
        self.assertEqual(lanes.heard(e=[5, 1, 9], l=[7, 0, 0, 0], tick=4, gain=8, back=2, mode=3, b=6, a=4), [8, 0, 0])
        self.assertEqual(lanes.paste(k=[6, 0, 0, 0], l=[7, 0, 0, 0], to=4, many=16777212, start=0),
                         [10, 10, 7, 0, 1, 0, 4, 0, 0, 0, 6, 0, 0])
        self.assertEqual(lanes.cut(l=[7, 0, 1, 0, 9, 0, 0, 0, 6, 0], many=3, start=2),
                         [10, 10, 7, 0, 1, 0, 6, 0, 0, 0, 6, 0, 0])
        self.assertEqual(lanes.open_of(l=[7, 0, 1, 0, 9, 0, 0, 0, 6, 0], many=3, start=2),
                         [10, 10, 7, 0, 1, 0, 12, 0, 0, 0, 6, 0, 0])


class Files(unittest.TestCase):
    def trees(self):
        return [(path.name, ast.parse(path.read_text(encoding="ascii"))) for path in FILES]

    def test_the_package_holds_its_files_alone(self):
        others = [path.name for path in PACKAGE.iterdir() if path.suffix != ".py" and path.name != "__pycache__"]
        self.assertEqual(others, [])
        self.assertIn("__init__.py", [path.name for path in FILES])

    def test_nothing_is_imported_but_the_packages_own_names_from_where_they_are_defined(self):
        trees = dict(self.trees())
        for name, tree in trees.items():
            for node in ast.walk(tree):
                self.assertNotIsInstance(node, ast.Import, name)
                if isinstance(node, ast.ImportFrom):
                    package, module = node.module.split(".")
                    self.assertEqual((package, node.level), ("lanedesk", 0), name)
                    self.assertEqual({one.name for one in node.names} - defined(trees[module + ".py"]), set(), name)
                    self.assertEqual([one.asname for one in node.names if one.asname], [], name)

    def test_imports_stand_at_the_top_and_go_round_in_no_ring(self):
        drawn = {}
        for name, tree in self.trees():
            imports = [node for node in ast.walk(tree) if isinstance(node, ast.ImportFrom)]
            self.assertEqual([node for node in imports if node not in tree.body], [], name)
            drawn[name] = {node.module.split(".")[1] + ".py" for node in imports}
        self.assertEqual(drawn["__init__.py"], set())
        while drawn:
            free = [name for name in drawn if not drawn[name] & set(drawn)]
            self.assertNotEqual(free, [], drawn)
            drawn = {name: drawn[name] for name in drawn if name not in free}

    def test_no_parameter_and_no_local_is_called_like_an_import_or_a_class_of_its_file(self):
        for name, tree in self.trees():
            taken = {one.name for node in tree.body if isinstance(node, ast.ImportFrom) for one in node.names}
            taken |= {node.name for node in tree.body if isinstance(node, ast.ClassDef)}
            bound = {node.arg for node in ast.walk(tree) if isinstance(node, ast.arg)}
            bound |= {node.id for node in ast.walk(tree)
                      if isinstance(node, ast.Name) and isinstance(node.ctx, ast.Store)}
            self.assertEqual(taken & bound, set(), name)

    def test_what_is_imported_is_used(self):
        for name, tree in self.trees():
            drawn = {one.name for node in tree.body if isinstance(node, ast.ImportFrom) for one in node.names}
            used = {node.id for node in ast.walk(tree) if isinstance(node, ast.Name)}
            self.assertEqual(drawn - used, set(), name)

    def test_of_pythons_own_names_only_those_allowed(self):
        for name, tree in self.trees():
            used = {node.id for node in ast.walk(tree) if isinstance(node, ast.Name)}
            self.assertEqual({one for one in used if hasattr(builtins, one)} - ALLOWED, set(), name)

    def test_of_pythons_own_methods_only_those_allowed(self):
        for name, tree in self.trees():
            used = {node.attr for node in ast.walk(tree) if isinstance(node, ast.Attribute)}
            self.assertEqual(used - METHODS - own_attributes(tree), set(), name)

    def test_own_methods_and_values_are_called_like_none_of_pythons_own(self):
        taken = set().union(*[dir(value) for value in ("", 0, [], {}, set(), b"", ())]) - {"__init__"}
        for name, tree in self.trees():
            self.assertEqual(own_attributes(tree) & taken, set(), name)

    def test_words_that_stand_nowhere(self):
        for path in FILES:
            self.assertEqual(set(re.findall(r"\w+", path.read_text(encoding="ascii"))) & WORDS_OUT, set(), path.name)

    def test_no_floats_and_no_true_division(self):
        for name, tree in self.trees():
            for node in ast.walk(tree):
                self.assertNotIsInstance(node, ast.Div, name)
                if isinstance(node, ast.Constant):
                    self.assertIn(type(node.value), (int, str, bool, type(None)), name)

    def test_sizes(self):
        for name, tree in self.trees():
            lines = (PACKAGE / name).read_text(encoding="ascii").split("\n")
            self.assertLessEqual(len(lines), 400, name)
            self.assertLessEqual(max(len(line) for line in lines), 120, name)
            self.assertFalse([line for line in lines if "\t" in line], name)
            for node in ast.walk(tree):
                if isinstance(node, ast.FunctionDef):
                    self.assertLessEqual(node.end_lineno - node.lineno + 1, 40, node.name)
