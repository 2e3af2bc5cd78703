"""More rules of the language that can be checked with little: where stars, calls and words may stand."""

import ast
import unittest

from test_language import LIBRARY, read, trees

BUILTINS = ["len", "range", "enumerate", "zip", "min", "max", "sum", "abs", "sorted", "reversed", "int", "str", "bool",
            "list", "tuple", "dict", "set", "isinstance", "ord", "repr", "any", "all", "divmod"]
ERRORS = ["ValueError"]
METHODS = ("append clear copy count endswith extend find get index insert isalnum isalpha isdigit islower isspace isupper items "
           "join keys ljust lower lstrip partition pop remove replace reverse rfind rjust rpartition rsplit rstrip setdefault "
           "split splitlines startswith strip update upper values zfill bit_length isascii add discard").split()
ATTRIBUTES = ("items keys values pop update append clear extend insert remove reverse setdefault sort args encode decode hex "
              "fromhex format").split()
NOWHERE = ["register", "mro", "elements", "open", "input", "law", "version_info", "with_traceback", "add_note"]
NO_NAMES = ("attrgetter breakpoint builtins compile copyright credits delattr dir eval exec exit gc getattr globals hasattr help "
            "id importlib license locals methodcaller os quit setattr super type vars sys").split()
NO_WORDS = ("typing typing_extensions enum Enum IntEnum StrEnum Flag IntFlag Generic Protocol ABC ABCMeta namedtuple NamedTuple "
            "TypedDict TYPE_CHECKING abstractmethod dataclass overload contextmanager").split()
ON_THE_SPOT = ["zip", "enumerate", "reversed", "range"]
VIEWS = ["items", "keys", "values"]
TAKE_THEM = ["list", "tuple", "dict", "sorted", "sum", "any", "all", "enumerate", "zip", "min", "max", "len"]
TARGETS = (ast.Name, ast.Tuple, ast.Starred, ast.Subscript, ast.Attribute)
STATEMENTS = (ast.Assign, ast.AugAssign, ast.If, ast.While, ast.For, ast.Return, ast.Break, ast.Continue, ast.Pass, ast.Raise,
              ast.Delete, ast.Expr, ast.Try, ast.FunctionDef, ast.ClassDef, ast.ImportFrom)


def nodes():
    """All nodes of all files, each with the file's name and the node that stands around it."""
    for name, tree in trees():
        for around in ast.walk(tree):
            for node in ast.iter_child_nodes(around):
                yield name, around, node


def is_call_of(node, names):
    return isinstance(node, ast.Call) and isinstance(node.func, ast.Name) and node.func.id in names


def is_plain(node):
    """Whether node is what may stand behind a star and beside two: a name, an attribute off a name, a literal, or such."""
    if isinstance(node, ast.Starred):
        return is_plain(node.value)
    if isinstance(node, (ast.List, ast.Tuple)):
        return all(is_plain(part) for part in node.elts)
    if isinstance(node, ast.Dict):
        return all(part is None or is_plain(part) for part in node.keys + node.values)
    return isinstance(node, (ast.Name, ast.Constant)) or is_name_or_attribute(node)


def is_name_or_attribute(node):
    return isinstance(node, ast.Name) or (isinstance(node, ast.Attribute) and isinstance(node.value, ast.Name))


def behind_stars(tree):
    """All that stands behind a star, and also all that follows one in the same call, list or tuple."""
    for node in ast.walk(tree):
        parts = []
        if isinstance(node, ast.Call):
            parts = node.args + [keyword.value for keyword in node.keywords]
        elif isinstance(node, (ast.List, ast.Tuple)):
            parts = node.elts
        stars = [at for at, part in enumerate(parts) if isinstance(part, ast.Starred)]
        if stars:
            yield from parts[stars[0]:]


def beside_two_stars(tree):
    """All pairs of what stands behind two stars and the list of what stands beside them."""
    for node in ast.walk(tree):
        if isinstance(node, ast.Dict):
            beside = [key for key in node.keys if key is not None]
            beside += [value for key, value in zip(node.keys, node.values) if key is not None]
            yield from [(value, beside) for key, value in zip(node.keys, node.values) if key is None]
        elif isinstance(node, ast.Call):
            for told in [keyword for keyword in node.keywords if keyword.arg is None]:
                yield told.value, node.args + [keyword for keyword in node.keywords if keyword is not told]


def own_names():
    """The names of all functions, classes and methods of the package, and of what its functions bind."""
    return {node.name for _, _, node in nodes() if isinstance(node, (ast.FunctionDef, ast.ClassDef))}


class Rules(unittest.TestCase):
    def test_no_star_in_an_index(self):
        for name, _, node in nodes():
            if isinstance(node, ast.Subscript):
                self.assertFalse(any(isinstance(part, ast.Starred) for part in ast.walk(node.slice)), (name, node.lineno))

    def test_statements(self):
        for name, _, node in nodes():
            if isinstance(node, ast.stmt):
                self.assertIsInstance(node, STATEMENTS, (name, node.lineno))
            if isinstance(node, ast.Expr):
                self.assertIsInstance(node.value, (ast.Call, ast.Constant), (name, node.lineno))

    def test_names_that_are_called(self):
        own = own_names()
        library = [word for words in LIBRARY.values() for word in words]
        for name, tree in trees():
            for function in [node for node in ast.walk(tree) if isinstance(node, ast.FunctionDef)]:
                bound = {node.id for node in ast.walk(function) if isinstance(node, ast.Name) and isinstance(node.ctx, ast.Store)}
                bound |= {node.arg for node in ast.walk(function) if isinstance(node, ast.arg)}
                for node in ast.walk(function):
                    if isinstance(node, ast.Call) and isinstance(node.func, ast.Name):
                        self.assertIn(node.func.id, {*BUILTINS, *own, *library, *bound}, (name, node.lineno))
                    elif isinstance(node, ast.Call) and isinstance(node.func, ast.Attribute):
                        self.assertIn(node.func.attr, {*METHODS, *own, "__init__"}, (name, node.lineno))
                    elif isinstance(node, ast.Call):
                        self.fail((name, node.lineno))

    def test_builtins_are_only_called(self):
        for name, around, node in nodes():
            if isinstance(node, ast.Name) and node.id in BUILTINS:
                called = isinstance(around, ast.Call) and around.func is node
                told = is_call_of(around, ["isinstance"]) or isinstance(around, (ast.Tuple, ast.keyword))
                self.assertTrue(called or told, (name, node.lineno))

    def test_words_that_are_not_used(self):
        for name, _, node in nodes():
            told = [getattr(node, field, None) for field in ("id", "name", "arg", "attr")]
            for word in [word for word in told if isinstance(word, str)]:
                self.assertNotIn(word, NOWHERE, (name, word))
                self.assertFalse(word.startswith("__") and word != "__init__", (name, word))
                self.assertTrue(word.isascii(), (name, word))
                if not isinstance(node, ast.Attribute):
                    self.assertNotIn(word, NO_NAMES, (name, word))
                else:
                    self.assertNotIn(word, [word for word in ATTRIBUTES if word not in METHODS], (name, word))
            if isinstance(node, ast.Attribute) and isinstance(node.ctx, ast.Store):
                self.assertNotIn(node.attr, ATTRIBUTES, (name, node.lineno))
        for name, _ in trees():
            words = "".join(sign if sign.isalnum() or sign == "_" else " " for sign in read(name)).split()
            self.assertEqual([word for word in words if word in NO_WORDS], [], name)

    def test_what_is_iterated_at_once(self):
        for name, around, node in nodes():
            view = isinstance(node, ast.Call) and isinstance(node.func, ast.Attribute) and node.func.attr in VIEWS
            if view or is_call_of(node, ON_THE_SPOT):
                in_loop = isinstance(around, (ast.For, ast.comprehension)) and around.iter is node
                taken = is_call_of(around, TAKE_THEM) and node in around.args
                tested = isinstance(around, ast.Compare) and isinstance(around.ops[0], (ast.In, ast.NotIn))
                turned = is_call_of(around, ["reversed"]) and is_call_of(node, ["range"])
                put_together = isinstance(around, ast.Call) and isinstance(around.func, ast.Attribute) and around.func.attr == "join"
                self.assertTrue(in_loop or taken or tested or turned or put_together, (name, node.lineno))
            if isinstance(node, ast.GeneratorExp):
                self.fail((name, node.lineno))
            if is_call_of(node, ["set"]):
                self.assertTrue(is_call_of(around, ["sorted", "len"]) and not around.keywords, (name, node.lineno))

    def test_values(self):
        for name, around, node in nodes():
            if isinstance(node, ast.Constant):
                self.assertNotIsInstance(node.value, (float, complex, bytes), (name, node.lineno))
                docstring = isinstance(around, ast.Expr)
                if isinstance(node.value, str) and not docstring:
                    self.assertNotIn("%", node.value, (name, node.lineno))
                    self.assertFalse(node.value.endswith(("._", ".__")), (name, node.lineno))
            if isinstance(node, ast.BinOp) and isinstance(node.op, ast.Pow):
                self.assertIsInstance(node.right, ast.Constant, (name, node.lineno))
                self.assertLessEqual(node.right.value, 64, (name, node.lineno))
            if isinstance(node, ast.Compare) and any(isinstance(op, (ast.Is, ast.IsNot)) for op in node.ops):
                self.assertIsInstance(node.comparators[0], ast.Constant, (name, node.lineno))
            if isinstance(node, ast.arguments):
                for default in node.defaults:
                    self.assertIsInstance(default, (ast.Constant, ast.Tuple), name)
                self.assertFalse(node.vararg or node.kwarg or node.kwonlyargs or node.posonlyargs, name)

    def test_strings_with_expressions(self):
        for name, tree in trees():
            # What stands behind the colon in a brace is no string of its own.
            formats = [id(node.format_spec) for node in ast.walk(tree) if isinstance(node, ast.FormattedValue)]
            for node in ast.walk(tree):
                if isinstance(node, ast.JoinedStr) and id(node) not in formats:
                    told = ast.get_source_segment(read(name), node)
                    self.assertFalse(any(sign in told for sign in "%#\\"), (name, node.lineno))
                    self.assertTrue(told.startswith('f"') and told.count('"') == 2 and told.count("'") % 2 == 0, (name, node.lineno))

    def test_stars_stand_in_lists_tuples_and_calls_of_own_functions(self):
        own = own_names()
        for name, around, node in nodes():
            if isinstance(node, ast.Starred):
                in_call = isinstance(around, ast.Call) and is_call_of(around, own)
                self.assertTrue(isinstance(around, (ast.List, ast.Tuple)) or in_call, (name, node.lineno))

    def test_what_stands_behind_stars(self):
        for name, tree in trees():
            for part in behind_stars(tree):
                self.assertTrue(is_plain(part), (name, part.lineno))
            for value, beside in beside_two_stars(tree):
                self.assertTrue(is_name_or_attribute(value), (name, value.lineno))
                self.assertTrue(all(is_plain(part) for part in beside), (name, value.lineno))

    def test_what_the_test_above_lets_and_refuses(self):
        for line in ("f(*xs)", "f(k[0], *xs, n, sep=n)", "f(*box.rows, *(1, n))", "[*xs, 1]", "(k[0], *xs)", "(*xs, (n, 'a'))"):
            self.assertTrue(all(map(is_plain, behind_stars(ast.parse(line)))), line)
        for line in ("f(*xs[0])", "f(*g(xs))", "f(*xs[1:])", "f(*a.b.c)", "f(*(xs + ys))", "f(*[x for x in xs])", "f(*xs, n[0])",
                     "f(*xs, k=n[0])", "f(*(n, xs[0]))", "[*xs[0], 1]", "(1, *g(xs))", "(*xs, n[0])", "f(*(a if c else b))"):
            self.assertFalse(all(map(is_plain, behind_stars(ast.parse(line)))), line)
        for line in ("f(**d)", "f(n, **box.d)", "{**d, 'a': 1}", "{**d, name: (n, m)}"):
            for value, beside in beside_two_stars(ast.parse(line)):
                self.assertTrue(is_name_or_attribute(value) and all(map(is_plain, beside)), line)
        for line in ("f(**d[0])", "f(n[0], **d)", "f(k=1, **d)", "f(**d, **e)", "{**d[0]}", "{**d, a[0]: 1}", "{**d, 'a': g(1)}"):
            found = list(beside_two_stars(ast.parse(line)))
            self.assertFalse(all(is_name_or_attribute(value) and all(map(is_plain, beside)) for value, beside in found), line)

    def test_keywords_of_builtins(self):
        allowed = {"sorted": ["key", "reverse"], "min": ["key", "default"], "max": ["key", "default"]}
        own = own_names()
        for name, _, node in nodes():
            if isinstance(node, ast.Call) and node.keywords:
                called = node.func.id if isinstance(node.func, ast.Name) else node.func.attr
                if called not in own:
                    told = [keyword.arg for keyword in node.keywords]
                    self.assertEqual([word for word in told if word not in allowed.get(called, [])], [], (name, node.lineno))

    def test_errors(self):
        for name, _, node in nodes():
            if isinstance(node, ast.Raise) and node.exc is not None:
                self.assertTrue(isinstance(node.exc, ast.Call) and isinstance(node.exc.func, ast.Name), (name, node.lineno))
            if isinstance(node, ast.ExceptHandler):
                told = node.type.elts if isinstance(node.type, ast.Tuple) else [node.type]
                self.assertTrue(all(isinstance(error, ast.Name) and error.id in own_names() for error in told), (name, node.lineno))

    def test_no_loop_changes_what_it_goes_over(self):
        changing = ["append", "clear", "extend", "insert", "pop", "remove", "reverse", "setdefault", "update"]
        for name, _, node in nodes():
            if not isinstance(node, ast.For):
                continue
            over = {ast.unparse(part) for part in ast.walk(node.iter) if isinstance(part, (ast.Name, ast.Attribute, ast.Subscript))}
            for part in [part for line in node.body for part in ast.walk(line)]:
                if isinstance(part, ast.Call) and isinstance(part.func, ast.Attribute) and part.func.attr in changing:
                    self.assertNotIn(ast.unparse(part.func.value), over, (name, part.lineno))
                if isinstance(part, ast.Subscript) and isinstance(part.ctx, (ast.Store, ast.Del)):
                    self.assertNotIn(ast.unparse(part.value), over, (name, part.lineno))


if __name__ == "__main__":
    unittest.main()
