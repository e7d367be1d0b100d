"""The package keeps to its small part of Python, as far as a look at the sources can tell."""

import ast
import builtins
import pathlib
import re
import unittest

PACKAGE = pathlib.Path(__file__).resolve().parent.parent / "shelfshares"

# Narrower than the rules: what the package has no need of (sets, errors, a lambda, an f-string) is out altogether, so
# that the rules about these need no look.
STATEMENTS = (
    ast.Module, ast.FunctionDef, ast.ClassDef, ast.ImportFrom, ast.Assign, ast.If, ast.While, ast.For,
    ast.Return, ast.Break, ast.Continue, ast.Expr,
)
EXPRESSIONS = (
    ast.BinOp, ast.UnaryOp, ast.BoolOp, ast.Compare, ast.IfExp, ast.Call, ast.Attribute, ast.Subscript, ast.Slice,
    ast.ListComp, ast.List, ast.Tuple, ast.Dict, ast.Name, ast.Constant,
)
BUILT_IN = "len range enumerate zip min max sum abs sorted reversed int str bool list tuple dict any all divmod".split()
WALKED_AT_ONCE = ("zip", "enumerate", "reversed", "range")
WALKERS = ("list", "tuple", "dict", "sorted", "sum", "any", "all", "enumerate", "zip", "min", "max")
CHANGING = ("append", "clear", "extend", "insert", "pop", "remove", "reverse", "setdefault", "update")
NOT_USED = (
    "register mro elements open input version_info with_traceback add_note attrgetter breakpoint builtins compile "
    "copyright credits delattr dir eval exec exit gc getattr globals hasattr help id importlib license locals "
    "methodcaller os quit setattr super sys type vars format format_map args encode"
).split()
METHODS = (
    "append clear copy count endswith extend find get index insert isalnum isalpha isdigit islower isspace isupper "
    "items join keys ljust lower lstrip partition pop remove replace reverse rfind rjust rpartition rsplit rstrip "
    "setdefault split splitlines startswith strip update upper values zfill bit_length"
).split()
WORDS = (
    r"\b(type|typing|typing_extensions|enum|Enum|IntEnum|StrEnum|Flag|IntFlag|Generic|Protocol|ABC|ABCMeta|namedtuple"
    r"|NamedTuple|TypedDict|TYPE_CHECKING|abstractmethod)\b|dataclass|overload|contextmanager"
)


def sources():
    """Each file of the package as its name, its text and its tree."""
    found = []
    for path in sorted(PACKAGE.glob("*.py")):
        text = path.read_text(encoding="utf-8")
        found.append((path.name, text, ast.parse(text)))
    return found


def names_bound(tree):
    """Every name that a file binds, wherever it does."""
    found = set()
    for node in ast.walk(tree):
        if isinstance(node, (ast.FunctionDef, ast.ClassDef)):
            found.add(node.name)
        elif isinstance(node, ast.arg):
            found.add(node.arg)
        elif isinstance(node, ast.alias):
            found.add(node.name)
        elif isinstance(node, ast.Name) and isinstance(node.ctx, ast.Store):
            found.add(node.id)
    return found


def names_at_the_top(tree):
    """The classes and imports of a file."""
    found = {node.name for node in tree.body if isinstance(node, ast.ClassDef)}
    return found | {alias.name for node in tree.body if isinstance(node, ast.ImportFrom) for alias in node.names}


def is_plain(value, functions):
    """Whether a name at a file's top may have this value; a list or dict holds none itself."""
    if isinstance(value, ast.Dict):
        parts = value.keys + value.values
    elif isinstance(value, (ast.List, ast.Tuple)):
        parts = value.elts
    else:
        parts = [value]
    for part in parts:
        if isinstance(part, ast.UnaryOp) and isinstance(part.op, ast.USub):
            part = part.operand
        if not isinstance(part, ast.Constant) and getattr(part, "id", "") not in functions:
            return False
    return True


class Language(unittest.TestCase):
    def test_there_are_sources_and_nothing_else(self):
        self.assertIn("shop.py", [name for name, text, tree in sources()])
        for path in PACKAGE.iterdir():
            if path.name != "__pycache__":
                self.assertRegex(path.name, r"^(__init__|__main__|[a-z][a-z0-9_]*)\.py$")

    def test_signs_words_and_sizes(self):
        for name, text, tree in sources():
            self.assertRegex(text, r"\A[ -~\n]*\Z", name)
            self.assertIsNone(re.search(WORDS, text), name)
            rows = text.splitlines()
            self.assertLessEqual(len(rows), 399, name)
            self.assertLessEqual(max(map(len, rows), default=0), 120, name)
            for node in ast.walk(tree):
                if isinstance(node, ast.FunctionDef):
                    self.assertLessEqual(node.end_lineno - node.lineno + 1, 40, (name, node.name))

    def test_statements_and_expressions(self):
        for name, text, tree in sources():
            for node in ast.walk(tree):
                place = (name, getattr(node, "lineno", 0), node)
                if isinstance(node, (ast.stmt, ast.mod)):
                    self.assertIsInstance(node, STATEMENTS, place)
                if isinstance(node, ast.expr):
                    self.assertIsInstance(node, EXPRESSIONS, place)
                if isinstance(node, ast.Constant):
                    self.assertIn(type(node.value), (int, str, bool, type(None)), place)
                if isinstance(node, ast.operator):
                    self.assertNotIsInstance(node, (ast.Div, ast.MatMult), place)
                if isinstance(node, ast.Assign):
                    self.assertEqual(len(node.targets), 1, place)
                if isinstance(node, (ast.For, ast.While)):
                    self.assertEqual(node.orelse, [], place)
                if isinstance(node, (ast.FunctionDef, ast.ClassDef)):
                    self.assertEqual(node.decorator_list, [], place)

    def test_the_top_of_a_file(self):
        for name, text, tree in sources():
            self.assertIsNotNone(ast.get_docstring(tree), name)
            above = []
            functions = []
            for node in tree.body[1:]:
                place = (name, node.lineno)
                self.assertIsInstance(node, (ast.ImportFrom, ast.FunctionDef, ast.ClassDef, ast.Assign), place)
                if isinstance(node, ast.ImportFrom):
                    above.extend(alias.name for alias in node.names)
                elif isinstance(node, ast.Assign):
                    self.assertTrue(is_plain(node.value, functions), place)
                    above.append(node.targets[0].id)
                else:
                    above.append(node.name)
                    functions.append(node.name)
            self.assertEqual(len(above), len(set(above)), name)

    def test_functions_and_classes(self):
        for name, text, tree in sources():
            for node in ast.walk(tree):
                place = (name, getattr(node, "lineno", 0))
                if isinstance(node, ast.FunctionDef):
                    given = node.args
                    self.assertEqual([given.vararg, given.kwarg], [None, None], place)
                    self.assertEqual([given.kwonlyargs, given.posonlyargs], [[], []], place)
                    self.assertEqual([given.defaults, node.returns], [[], None], place)
                    self.assertEqual([part.annotation for part in given.args], [None] * len(given.args), place)
                    inner = [part for part in ast.walk(node) if isinstance(part, (ast.FunctionDef, ast.ClassDef))]
                    self.assertEqual(inner, [node], place)
                if isinstance(node, ast.ClassDef):
                    self.assertEqual(node.bases, [], place)
                    self.assertIsInstance(node.body[0], (ast.Expr, ast.FunctionDef), place)
                    self.assertEqual([part.name for part in node.body[1:]], ["__init__"], place)

    def test_what_stands_at_the_top_is_only_read(self):
        kept = {node.targets[0].id for name, text, tree in sources()
                for node in tree.body if isinstance(node, ast.Assign)}
        for name, text, tree in sources():
            own = names_at_the_top(tree)
            for node in ast.walk(tree):
                place = (name, getattr(node, "lineno", 0))
                if isinstance(node, (ast.Subscript, ast.Attribute)) and isinstance(node.ctx, ast.Store):
                    self.assertNotIn(getattr(node.value, "id", ""), kept, place)
                if isinstance(node, ast.Attribute) and node.attr in CHANGING:
                    self.assertNotIn(getattr(node.value, "id", ""), kept, place)
                if isinstance(node, ast.FunctionDef):
                    local = {part.arg for part in node.args.args}
                    local |= {part.id for part in ast.walk(node)
                              if isinstance(part, ast.Name) and isinstance(part.ctx, ast.Store)}
                    self.assertEqual(local & own, set(), place)

    def test_small_forms(self):
        for name, text, tree in sources():
            for node in ast.walk(tree):
                place = (name, getattr(node, "lineno", 0))
                if isinstance(node, ast.ListComp):
                    self.assertEqual(len(node.generators), 1, place)
                    self.assertLessEqual(len(node.generators[0].ifs), 1, place)
                if isinstance(node, ast.Compare) and isinstance(node.ops[0], (ast.Is, ast.IsNot)):
                    # By the kind of value, since 1 == True.
                    self.assertIn(type(getattr(node.comparators[0], "value", 0)), (type(None), bool), place)
                if isinstance(node, ast.Constant) and isinstance(node.value, str):
                    self.assertNotRegex(node.value, r"[%\\]", place)
                if isinstance(node, ast.Call):
                    self.assertEqual(node.keywords, [], place)
                self.assertNotIsInstance(node, (ast.Pow, ast.Starred), place)

    def test_walked_at_once(self):
        for name, text, tree in sources():
            on_the_spot = []
            for node in ast.walk(tree):
                if isinstance(node, (ast.For, ast.comprehension)):
                    on_the_spot.append(node.iter)
                if isinstance(node, ast.Call) and isinstance(node.func, ast.Name) and node.func.id in WALKERS:
                    on_the_spot.extend(node.args[:1])
            for node in ast.walk(tree):
                if isinstance(node, ast.Call) and isinstance(node.func, ast.Name) and node.func.id in WALKED_AT_ONCE:
                    self.assertIn(node, on_the_spot, (name, node.lineno))

    def test_what_a_loop_walks_is_not_changed_in_it(self):
        for name, text, tree in sources():
            for loop in [node for node in ast.walk(tree) if isinstance(node, ast.For)]:
                walked = {ast.dump(part) for part in ast.walk(loop.iter)}
                for node in [part for row in loop.body for part in ast.walk(row)]:
                    if isinstance(node, ast.Attribute) and node.attr in CHANGING:
                        self.assertNotIn(ast.dump(node.value), walked, (name, node.lineno))
                    if isinstance(node, ast.Subscript) and isinstance(node.ctx, ast.Store):
                        self.assertNotIn(ast.dump(node.value).replace("Store", "Load"), walked, (name, node.lineno))

    def test_names_that_are_not_used(self):
        for name, text, tree in sources():
            for node in ast.walk(tree):
                for word in (getattr(node, "id", ""), getattr(node, "attr", ""), getattr(node, "name", "")):
                    self.assertNotIn(word, NOT_USED, (name, getattr(node, "lineno", 0)))

    def test_a_method_is_called_where_it_stands(self):
        for name, text, tree in sources():
            called = [node.func for node in ast.walk(tree) if isinstance(node, ast.Call)]
            for node in ast.walk(tree):
                if isinstance(node, ast.Attribute) and node.attr in METHODS:
                    self.assertIn(node, called, (name, node.lineno))
                if isinstance(node, ast.Name) and node.id in BUILT_IN:
                    self.assertIn(node, called, (name, node.lineno))

    def test_no_two_files_draw_from_one_another(self):
        draws = {}
        for name, text, tree in sources():
            found = [node.module for node in tree.body if isinstance(node, ast.ImportFrom)]
            draws["shelfshares." + name.removesuffix(".py")] = found
        self.assertEqual(draws["shelfshares.__init__"], [])
        left = dict(draws)
        while left:
            free = [module for module in left if not set(left[module]) & set(left)]
            self.assertNotEqual(free, [], left)
            for module in free:
                left.pop(module)

    def test_the_function_of_the_interface_stands_in_its_file_alone(self):
        found = [name for name, text, tree in sources() for node in tree.body if getattr(node, "name", "") == "answers"]
        self.assertEqual(found, ["shop.py"])

    def test_names(self):
        for name, text, tree in sources():
            bound = names_bound(tree)
            for word in bound - {"__init__", "__eq__", "__repr__", "__str__", "__len__"}:
                self.assertRegex(word, r"^[A-Za-z][A-Za-z0-9_]*$", name)
                self.assertNotIn(word, dir(builtins), name)
            for node in ast.walk(tree):
                if isinstance(node, ast.Name) and isinstance(node.ctx, ast.Load):
                    self.assertIn(node.id, bound | set(BUILT_IN), (name, node.lineno))

    def test_methods_are_own_ones_or_those_listed(self):
        own = set()
        for name, text, tree in sources():
            own |= names_bound(tree)
        for name, text, tree in sources():
            for node in ast.walk(tree):
                if isinstance(node, ast.Call) and isinstance(node.func, ast.Attribute):
                    self.assertIn(node.func.attr, own | set(METHODS), (name, node.lineno))

    def test_imports_come_from_the_file_that_defines_the_name(self):
        defined = {}
        for name, text, tree in sources():
            module = "shelfshares." + name.removesuffix(".py")
            defined[module] = set()
            for node in tree.body:
                if isinstance(node, (ast.FunctionDef, ast.ClassDef)):
                    defined[module].add(node.name)
                if isinstance(node, ast.Assign):
                    defined[module].add(node.targets[0].id)
        for name, text, tree in sources():
            for node in ast.walk(tree):
                if isinstance(node, ast.ImportFrom):
                    self.assertIn(node, tree.body, name)
                    self.assertEqual(node.level, 0, name)
                    for alias in node.names:
                        self.assertIn(alias.name, defined[node.module], name)
                        self.assertIsNone(alias.asname, name)


if __name__ == "__main__":
    unittest.main()
