"""Those rules of the program's language that can be seen file by file; the others are kept by hand."""

import ast
import builtins
import pathlib
import re
import unittest

PACKAGE = pathlib.Path(__file__).resolve().parent.parent / "crossfilldesk"
FILES = sorted(path for path in PACKAGE.iterdir() if path.name != "__pycache__")
TREES = {path.stem: ast.parse(path.read_text(encoding="utf-8")) for path in FILES}

OWN_NAMES = set("""
    len range enumerate zip min max sum abs sorted reversed int str bool list tuple dict set frozenset isinstance
    ord repr any all divmod Exception ValueError TypeError KeyError IndexError LookupError ZeroDivisionError
    ArithmeticError OverflowError RuntimeError NotImplementedError AttributeError StopIteration
""".split())
METHODS = set("""
    append clear copy count endswith extend find get index insert isalnum isalpha isdigit islower isspace isupper
    items join keys ljust lower lstrip partition pop remove replace reverse rfind rjust rpartition rsplit rstrip
    setdefault split splitlines startswith strip update upper values zfill bit_length
""".split())
NAMES_OUT = set("""
    register mro elements open input version_info with_traceback add_note attrgetter breakpoint builtins compile
    copyright credits delattr dir eval exec exit gc getattr globals hasattr help id importlib license locals
    methodcaller os quit setattr super sys type vars __name__
""".split())
WALKS = {"zip", "enumerate", "reversed", "range"}
WALKERS = {"list", "tuple", "dict", "sorted", "sum", "any", "all", "enumerate", "zip", "min", "max"}
KEYWORDS = {"sorted": {"key", "reverse"}, "min": {"key", "default"}, "max": {"key", "default"}, "sum": {"start"},
            "enumerate": {"start"}, "zip": {"strict"}}
WORDS_OUT = re.compile(
    r"\b(type|typing|typing_extensions|enum|Enum|IntEnum|StrEnum|Flag|IntFlag|Generic|Protocol|ABC|ABCMeta"
    r"|namedtuple|NamedTuple|TypedDict|TYPE_CHECKING|abstractmethod)\b|dataclass|overload|contextmanager")
FORMS_OUT = (
    ast.With, ast.Match, ast.Delete, ast.Global, ast.Nonlocal, ast.Assert, ast.Yield, ast.YieldFrom,
    ast.AsyncFunctionDef, ast.Await, ast.Import, ast.SetComp, ast.DictComp, ast.GeneratorExp, ast.NamedExpr,
    ast.Starred, ast.Div, ast.MatMult, ast.Pow, ast.AnnAssign, ast.Set)


def each_node():
    for name, tree in TREES.items():
        for node in ast.walk(tree):
            yield (name, getattr(node, "lineno", 0)), node


def top_names(tree):
    for node in tree.body:
        if isinstance(node, (ast.FunctionDef, ast.ClassDef)):
            yield node.name
        if isinstance(node, ast.Assign):
            yield node.targets[0].id
        if isinstance(node, ast.ImportFrom):
            yield from (alias.name for alias in node.names)


def defined_names(tree):
    drawn = {alias.name for node in tree.body if isinstance(node, ast.ImportFrom) for alias in node.names}
    return set(top_names(tree)) - drawn


def drawn_from(tree):
    return {node.module.split(".")[1] for node in tree.body if isinstance(node, ast.ImportFrom)}


def bound_within(tree):
    """Parameters, and names that are given a value in defs."""
    for node in tree.body:
        for part in ast.walk(node) if isinstance(node, (ast.FunctionDef, ast.ClassDef)) else ():
            if isinstance(part, ast.arg):
                yield part.arg
            if isinstance(part, ast.Name) and isinstance(part.ctx, ast.Store):
                yield part.id


def is_plain(node):
    if isinstance(node, ast.UnaryOp) and isinstance(node.op, ast.USub):
        return is_plain(node.operand)
    if isinstance(node, (ast.Tuple, ast.List)):
        return all(is_plain(part) for part in node.elts)
    return isinstance(node, ast.Constant)


class Files(unittest.TestCase):
    def test_files(self):
        self.assertIn("__init__.py", [path.name for path in FILES])
        for path in FILES:
            self.assertRegex(path.name, r"^([a-z][a-z0-9_]*|__init__|__main__)\.py$")
            self.assertNotIn(path.stem, dir(builtins))

    def test_signs_sizes_and_words(self):
        for path in FILES:
            text = path.read_text(encoding="utf-8")
            self.assertRegex(text, r"\A[ -~\n]*\Z", path.name)
            self.assertLessEqual(len(text.split("\n")), 401, path.name)
            self.assertLessEqual(max(len(line) for line in text.split("\n")), 120, path.name)
            self.assertIsNone(WORDS_OUT.search(text), path.name)

    def test_the_top_of_a_file(self):
        for name, tree in TREES.items():
            names = list(top_names(tree))
            self.assertEqual(len(names), len(set(names)), name)
            for place, node in enumerate(tree.body):
                with self.subTest(file=name, line=node.lineno):
                    if isinstance(node, ast.Assign):
                        self.assertTrue(is_plain(node.value))
                    elif isinstance(node, ast.Expr):
                        self.assertEqual(place, 0)
                    else:
                        self.assertIsInstance(node, (ast.ImportFrom, ast.FunctionDef, ast.ClassDef))

    def test_imports(self):
        for name, tree in TREES.items():
            for node in ast.walk(tree):
                if isinstance(node, ast.ImportFrom):
                    with self.subTest(file=name, line=node.lineno):
                        self.assertEqual(node.level, 0)
                        self.assertRegex(node.module, r"^crossfilldesk\.[a-z_]+$")
                        self.assertIn(node, tree.body)
                        for alias in node.names:
                            self.assertIsNone(alias.asname)
                            self.assertIn(alias.name, defined_names(TREES[node.module.split(".")[1]]))

    def test_no_files_draw_from_one_another(self):
        left = {name: drawn_from(tree) for name, tree in TREES.items()}
        while left:
            free = [name for name in left if not left[name] & set(left)]
            self.assertTrue(free, left)
            left = {name: left[name] for name in left if name not in free}

    def test_names_given_within_defs(self):
        for name, tree in TREES.items():
            kept = {alias.name for node in tree.body if isinstance(node, ast.ImportFrom) for alias in node.names}
            kept |= {node.name for node in tree.body if isinstance(node, ast.ClassDef)}
            self.assertEqual(set(bound_within(tree)) & (kept | set(dir(builtins))), set(), name)


class Forms(unittest.TestCase):
    def test_forms(self):
        for where, node in each_node():
            self.assertNotIsInstance(node, FORMS_OUT, where)
            if isinstance(node, (ast.For, ast.While)):
                self.assertEqual(node.orelse, [], where)
            if isinstance(node, ast.Assign):
                self.assertEqual(len(node.targets), 1, where)
            if isinstance(node, ast.Constant):
                self.assertNotIsInstance(node.value, (float, bytes), where)
            if isinstance(node, ast.ListComp):
                self.assertEqual(len(node.generators), 1, where)
                self.assertLessEqual(len(node.generators[0].ifs), 1, where)

    def test_functions(self):
        for where, node in each_node():
            if isinstance(node, ast.FunctionDef):
                self.assertLessEqual(node.end_lineno - node.lineno + 1, 40, where)
                self.assertEqual(node.decorator_list, [], where)
                given = node.args
                self.assertEqual((given.vararg, given.kwarg, given.kwonlyargs, given.posonlyargs),
                                 (None, None, [], []), where)
                self.assertTrue(all(is_plain(value) for value in given.defaults), where)
                self.assertIsNone(node.returns, where)
                self.assertEqual([part.annotation for part in given.args if part.annotation], [], where)

    def test_classes(self):
        for where, node in each_node():
            if isinstance(node, ast.ClassDef):
                self.assertLessEqual(len(node.bases), 1, where)
                self.assertEqual(node.decorator_list + node.keywords, [], where)
                for part in node.body:
                    self.assertIsInstance(part, (ast.FunctionDef, ast.Pass), where)

    def test_errors(self):
        for where, node in each_node():
            if isinstance(node, ast.Try):
                self.assertEqual(node.finalbody, [], where)
            if isinstance(node, ast.ExceptHandler):
                self.assertIsInstance(node.type, ast.Name, where)
                self.assertNotIn(node.type.id, ("Exception", "TypeError", "ValueError", "LookupError", "IndexError"))
            if isinstance(node, ast.Raise):
                self.assertIsInstance(node.exc, ast.Call, where)

    def test_is_stands_beside_none_true_and_false(self):
        for where, node in each_node():
            if isinstance(node, ast.Compare):
                for op, part in zip(node.ops, node.comparators):
                    if isinstance(op, (ast.Is, ast.IsNot)):
                        self.assertIsInstance(part, ast.Constant, where)
                        self.assertIn(part.value, (None, True, False), where)

    def test_names(self):
        own = {part.name for where, node in each_node() if isinstance(node, ast.ClassDef)
               for part in node.body if isinstance(part, ast.FunctionDef)}
        values = {node.attr for where, node in each_node() if isinstance(node, ast.Attribute)
                  and isinstance(node.ctx, ast.Store)}
        self.assertEqual(own & values, set())
        for where, node in each_node():
            if isinstance(node, ast.Name):
                self.assertNotIn(node.id, set(dir(builtins)) - OWN_NAMES, where)
                self.assertNotIn(node.id, NAMES_OUT, where)
                self.assertFalse(node.id.startswith("_"), where)
            if isinstance(node, ast.Attribute):
                self.assertIn(node.attr, METHODS | own | values, where)
            if isinstance(node, ast.Call) and isinstance(node.func, ast.Attribute):
                self.assertIn(node.func.attr, METHODS | own, where)
        for name in values | own - {"__init__"}:
            for kind in (str, int, list, dict, set, bytes, tuple):
                self.assertFalse(hasattr(kind, name), name)

    def test_keywords(self):
        for where, node in each_node():
            if isinstance(node, ast.Call) and node.keywords:
                self.assertIsInstance(node.func, ast.Name, where)
                given = {keyword.arg for keyword in node.keywords}
                self.assertLessEqual(given, KEYWORDS.get(node.func.id, set()), where)

    def test_walks_are_walked_on_the_spot(self):
        walked = []
        for where, node in each_node():
            if isinstance(node, (ast.For, ast.comprehension)):
                walked.append(node.iter)
            if isinstance(node, ast.Call) and isinstance(node.func, ast.Name) and node.func.id in WALKERS:
                walked.extend(node.args[:1])
        for where, node in each_node():
            if isinstance(node, ast.Call) and isinstance(node.func, ast.Name) and node.func.id in WALKS:
                self.assertIn(node, walked, where)
            if isinstance(node, ast.Call) and isinstance(node.func, ast.Attribute):
                if node.func.attr in ("items", "keys", "values"):
                    self.assertIn(node, walked, where)


if __name__ == "__main__":
    unittest.main()
