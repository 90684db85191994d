"""The rules on the package's own files, as far as they can be seen without running them."""

import ast
import builtins
import pathlib
import re
import unittest

PACKAGE = pathlib.Path(__file__).resolve().parent.parent / "quirefold"

NODES = set("""
Module Expr Constant Name Load Store Assign AugAssign FunctionDef Lambda arguments arg Return
If While For Break Continue Pass Call keyword Attribute Subscript Slice Compare BoolOp And Or UnaryOp Not
USub UAdd Invert BinOp Add Sub Mult FloorDiv Mod Pow LShift RShift BitAnd BitOr BitXor IfExp
List Tuple Dict ListComp comprehension Eq NotEq Lt LtE Gt GtE In NotIn Is IsNot
""".split())

ALLOWED = set("""
len range enumerate zip min max sum abs sorted reversed int str bool list tuple dict set frozenset
isinstance ord repr any all divmod
""".split())

BANNED_WORDS = """
type typing typing_extensions enum Enum IntEnum StrEnum Flag IntFlag Generic Protocol ABC ABCMeta
namedtuple NamedTuple TypedDict TYPE_CHECKING abstractmethod
""".split()

BANNED_NAMES = set("""
register mro elements open input version_info with_traceback add_note attrgetter breakpoint builtins compile copyright
credits delattr dir eval exec exit gc getattr globals hasattr help id importlib license locals methodcaller os quit
setattr super sys type vars
""".split())

WALKED_AT_ONCE = {"zip", "enumerate", "reversed", "range"}

WALKERS = {"list", "tuple", "dict", "sorted", "sum", "any", "all", "enumerate", "zip", "min", "max"}

METHODS = set("""
append clear copy count endswith extend find get index insert isalnum isalpha isdigit islower isspace isupper
items join keys ljust lower lstrip partition pop remove replace reverse rfind rjust rpartition rsplit rstrip
setdefault split splitlines startswith strip update upper values zfill bit_length
""".split())

CHANGING_METHODS = {"append", "clear", "extend", "insert", "pop", "remove", "reverse", "setdefault", "update"}


def package_files():
    return sorted(path for path in PACKAGE.rglob("*") if "__pycache__" not in path.parts)


def trees():
    return [(path.name, ast.parse(path.read_text(encoding="utf-8"))) for path in package_files()]


def is_plain(value):
    if isinstance(value, ast.UnaryOp):
        return isinstance(value.op, ast.USub) and is_plain(value.operand)
    if isinstance(value, (ast.List, ast.Tuple)):
        return all(is_plain(part) for part in value.elts)
    if isinstance(value, ast.Dict):
        return all(is_plain(part) for part in value.keys + value.values)
    return isinstance(value, ast.Constant)


class Files(unittest.TestCase):
    def test_names(self):
        names = [path.relative_to(PACKAGE).as_posix() for path in package_files()]
        self.assertIn("__init__.py", names)
        self.assertIn("desk.py", names)
        for name in names:
            self.assertRegex(name, r"^(__init__|[a-z][a-z0-9_]*)\.py$")

    def test_signs_and_sizes(self):
        for path in package_files():
            text = path.read_bytes().decode("ascii")
            self.assertRegex(text, r"\A[ -~\n]*\Z")
            lines = text.split("\n")
            self.assertLessEqual(len(lines), 400)
            self.assertLessEqual(max(len(line) for line in lines), 120)

    def test_words(self):
        for path in package_files():
            text = path.read_text(encoding="utf-8")
            self.assertEqual([word for word in re.findall(r"\w+", text) if word in BANNED_WORDS], [])
            self.assertNotRegex(text, "dataclass|overload|contextmanager")


class Code(unittest.TestCase):
    def test_forms(self):
        # Import is not among the forms: the document says the program imports nothing.
        for name, tree in trees():
            kinds = {type(node).__name__ for node in ast.walk(tree)}
            self.assertEqual(kinds - NODES, set(), name)

    def test_constants(self):
        for name, tree in trees():
            for node in ast.walk(tree):
                if isinstance(node, ast.Constant):
                    self.assertIn(type(node.value), (int, str, bool, type(None)), name)

    def test_top(self):
        for name, tree in trees():
            bound = []
            for node in tree.body[1:]:
                if isinstance(node, ast.Assign):
                    self.assertTrue(is_plain(node.value), ast.unparse(node))
                    bound.append(node.targets[0].id)
                else:
                    self.assertIsInstance(node, ast.FunctionDef)
                    bound.append(node.name)
            self.assertIsNotNone(ast.get_docstring(tree), name)
            self.assertEqual(len(bound), len(set(bound)), name)

    def test_functions(self):
        for name, tree in trees():
            for node in ast.walk(tree):
                if isinstance(node, ast.FunctionDef):
                    self.assertLessEqual(node.end_lineno - node.lineno + 1, 40, node.name)
                    self.assertEqual(node.decorator_list, [])
                    self.assertIsNone(node.args.vararg or node.args.kwarg)
                    self.assertEqual(node.args.kwonlyargs + node.args.posonlyargs, [])

    def test_names(self):
        own = set(dir(builtins))
        for name, tree in trees():
            for node in ast.walk(tree):
                if isinstance(node, ast.Name) and isinstance(node.ctx, ast.Load) and node.id in own:
                    self.assertIn(node.id, ALLOWED, name)
                for bound in names_bound(node):
                    self.assertNotIn(bound, own, name)
                    self.assertRegex(bound, r"^[A-Za-z][A-Za-z0-9_]*$", name)
                if isinstance(node, ast.Attribute):
                    self.assertIn(node.attr, METHODS, name)

    def test_is_beside_none_true_false_alone(self):
        for name, tree in trees():
            for node in ast.walk(tree):
                if isinstance(node, ast.Compare):
                    for sign, right in zip(node.ops, node.comparators):
                        if isinstance(sign, (ast.Is, ast.IsNot)):
                            self.assertIn(ast.unparse(right), ("None", "True", "False"), name)

    def test_names_that_are_not_used(self):
        for name, tree in trees():
            for node in ast.walk(tree):
                used = names_bound(node) + ([node.id] if isinstance(node, ast.Name) else [])
                self.assertEqual(BANNED_NAMES & set(used), set(), name)

    def test_statements(self):
        for name, tree in trees():
            for node in ast.walk(tree):
                if isinstance(node, (ast.For, ast.While)):
                    self.assertEqual(node.orelse, [], name)
                if isinstance(node, ast.Assign):
                    self.assertEqual([type(target) for target in node.targets if type(target) is ast.Tuple], [], name)
                    self.assertEqual(len(node.targets), 1, name)
                if isinstance(node, ast.ListComp):
                    self.assertEqual(len(node.generators), 1, name)
                    self.assertLessEqual(len(node.generators[0].ifs), 1, name)

    def test_no_power_and_no_percent_in_a_text(self):
        for name, tree in trees():
            for node in ast.walk(tree):
                if isinstance(node, ast.BinOp) and isinstance(node.op, ast.Pow):
                    self.assertIsInstance(node.right, ast.Constant, name)
                if isinstance(node, ast.Constant) and isinstance(node.value, str):
                    self.assertNotIn("%", node.value, name)

    def test_lists_and_dicts_of_the_top_are_only_read(self):
        for name, tree in trees():
            kept = {
                node.targets[0].id for node in tree.body
                if isinstance(node, ast.Assign) and isinstance(node.value, (ast.List, ast.Dict))
            }
            indexed = [
                node.value for node in ast.walk(tree)
                if isinstance(node, ast.Subscript) and isinstance(node.ctx, ast.Load)
            ]
            for node in ast.walk(tree):
                if isinstance(node, ast.Name) and isinstance(node.ctx, ast.Load) and node.id in kept:
                    self.assertIn(node, indexed, f"{name}: {node.id}")

    def test_walked_at_once(self):
        for name, tree in trees():
            walked = []
            for node in ast.walk(tree):
                if isinstance(node, (ast.For, ast.comprehension)):
                    walked.append(node.iter)
                if isinstance(node, ast.Call) and called(node) in WALKERS:
                    walked.extend(node.args)
            for node in ast.walk(tree):
                if isinstance(node, ast.Call) and called(node) in WALKED_AT_ONCE:
                    self.assertIn(node, walked, f"{name}: {ast.unparse(node)}")

    def test_what_a_loop_walks_is_not_changed_in_it(self):
        for name, tree in trees():
            for loop in ast.walk(tree):
                if isinstance(loop, ast.For):
                    walked = {node.id for node in ast.walk(loop.iter) if isinstance(node, ast.Name)}
                    for node in ast.walk(loop):
                        self.assertNotIn(changed_by(node), walked, f"{name}: {ast.unparse(loop)}")


def called(node):
    return node.func.id if isinstance(node.func, ast.Name) else None


def changed_by(node):
    """The name of the list or dict that is changed here, if one is."""
    if isinstance(node, ast.Subscript) and isinstance(node.ctx, ast.Store) and isinstance(node.value, ast.Name):
        return node.value.id
    if isinstance(node, ast.Call) and isinstance(node.func, ast.Attribute) and isinstance(node.func.value, ast.Name):
        if node.func.attr in CHANGING_METHODS:
            return node.func.value.id
    return None


def names_bound(node):
    if isinstance(node, ast.Name) and isinstance(node.ctx, ast.Store):
        return [node.id]
    if isinstance(node, ast.arg):
        return [node.arg]
    if isinstance(node, ast.FunctionDef):
        return [node.name]
    return []


if __name__ == "__main__":
    unittest.main()
