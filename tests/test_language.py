"""The package's files keep to the small part of Python that they are written in (those rules that can be seen)."""

import ast
import builtins
import pathlib
import re
import unittest

PACKAGE = pathlib.Path(__file__).resolve().parent.parent / "levelbench"
FILES = sorted(path for path in PACKAGE.rglob("*") if "__pycache__" not in path.parts)

ERRORS = """Exception ValueError TypeError KeyError IndexError LookupError ZeroDivisionError ArithmeticError
    OverflowError RuntimeError NotImplementedError AttributeError StopIteration""".split()
OWN_OF_PYTHON = ERRORS + """len range enumerate zip min max sum abs sorted reversed int str bool list tuple dict set
    frozenset isinstance ord repr any all divmod""".split()
METHODS = """append clear copy count endswith extend find get index insert isalnum isalpha isdigit islower isspace
    isupper items join keys ljust lower lstrip partition pop remove replace reverse rfind rjust rpartition rsplit
    rstrip setdefault split splitlines startswith strip update upper values zfill bit_length""".split()
NO_NAMES = """register mro elements open input version_info with_traceback add_note attrgetter breakpoint builtins
    compile copyright credits delattr dir eval exec exit gc getattr globals hasattr help id importlib license locals
    methodcaller os quit setattr super type vars sys __name__""".split()
NO_WORDS = r"""\b(type|typing|typing_extensions|enum|Enum|IntEnum|StrEnum|Flag|IntFlag|Generic|Protocol|ABC|ABCMeta
    |namedtuple|NamedTuple|TypedDict|TYPE_CHECKING|abstractmethod)\b|dataclass|overload|contextmanager"""
STATEMENTS = (ast.Assign, ast.AugAssign, ast.If, ast.While, ast.For, ast.Return, ast.Break, ast.Continue, ast.Pass,
              ast.Raise, ast.Try, ast.Expr, ast.FunctionDef, ast.ClassDef, ast.ImportFrom)
EXPRESSIONS = (ast.Constant, ast.List, ast.Tuple, ast.Dict, ast.Set, ast.BinOp, ast.UnaryOp, ast.BoolOp, ast.Compare,
               ast.IfExp, ast.Call, ast.Attribute, ast.Subscript, ast.Slice, ast.Name, ast.ListComp, ast.JoinedStr,
               ast.FormattedValue, ast.Lambda)
KEYWORDS = {"sorted": ["key", "reverse"], "min": ["key", "default"], "max": ["key", "default"], "sum": ["start"],
            "enumerate": ["start"], "zip": ["strict"]}
WALKED = ["zip", "enumerate", "reversed", "range", "items", "keys", "values"]
WALKERS = ["list", "tuple", "dict", "sorted", "sum", "any", "all", "enumerate", "zip", "min", "max", "join"]
CHANGES = ["append", "clear", "extend", "insert", "pop", "remove", "reverse", "setdefault", "update"]
DUNDERS = ["__init__", "__eq__", "__repr__", "__str__", "__len__"]


def walked(tree, kind):
    return [node for node in ast.walk(tree) if isinstance(node, kind)]


def bound_names(tree):
    names = [node.id for node in walked(tree, ast.Name) if isinstance(node.ctx, ast.Store)]
    names += [node.arg for node in walked(tree, ast.arg)]
    names += [node.name for node in walked(tree, (ast.FunctionDef, ast.ClassDef))]
    return names + [node.attr for node in walked(tree, ast.Attribute) if isinstance(node.ctx, ast.Store)]


def called(node):
    """The last word of what is called, or None."""
    if not isinstance(node, ast.Call):
        return None
    return node.func.attr if isinstance(node.func, ast.Attribute) else getattr(node.func, "id", None)


def walked_on_the_spot(tree):
    """Those nodes that stand where a walk begins."""
    for node in ast.walk(tree):
        if isinstance(node, (ast.For, ast.comprehension)):
            yield node.iter
        elif called(node) in WALKERS and node.args:
            yield node.args[0]


class Language(unittest.TestCase):
    def setUp(self):
        self.texts = {path.name: path.read_text(encoding="utf-8") for path in FILES}
        self.trees = {name: ast.parse(text) for name, text in self.texts.items()}

    def assert_none(self, found):
        self.assertEqual(list(found), [])

    def each(self, kind):
        return [(name, node) for name, tree in self.trees.items() for node in walked(tree, kind)]

    def test_files(self):
        self.assertIn("__init__.py", self.texts)
        for path in FILES:
            self.assertTrue(path.is_file() and path.parent == PACKAGE, path)
            self.assertRegex(path.name, r"^([a-z][a-z0-9_]*|__init__|__main__)\.py$")
            self.assertTrue(path.stem.startswith("__") or not hasattr(builtins, path.stem), path)

    def test_signs_and_sizes(self):
        for name, text in self.texts.items():
            self.assertIsNone(re.search(r"[^ -~\n]", text), name)
            rows = text.split("\n")
            self.assertLessEqual(len(rows), 401, name)
            self.assertLessEqual(max(len(row) for row in rows), 120, name)
        for name, node in self.each(ast.FunctionDef):
            self.assertLessEqual(node.end_lineno - node.lineno + 1, 40, (name, node.name))

    def test_words(self):
        pattern = re.compile(NO_WORDS, re.VERBOSE)
        self.assert_none((name, pattern.findall(text)) for name, text in self.texts.items() if pattern.search(text))

    def test_tops(self):
        kinds = (ast.ImportFrom, ast.FunctionDef, ast.ClassDef, ast.Assign)
        for name, tree in self.trees.items():
            self.assertIsNotNone(ast.get_docstring(tree), name)
            self.assert_none((name, node.lineno) for node in tree.body[1:] if not isinstance(node, kinds))
            bound = [node.name for node in tree.body if isinstance(node, (ast.FunctionDef, ast.ClassDef))]
            bound += [each.name for node in tree.body if isinstance(node, ast.ImportFrom) for each in node.names]
            self.assertEqual(len(bound), len(set(bound)), name)

    def test_imports(self):
        drawn = {name: [] for name in self.trees}
        for name, node in self.each(ast.ImportFrom):
            self.assertRegex(node.module, r"^levelbench\.[a-z_]+$")
            source = node.module.split(".")[1] + ".py"
            body = self.trees[source].body
            defined = [each.name for each in body if isinstance(each, (ast.FunctionDef, ast.ClassDef))]
            defined += [each.targets[0].id for each in body if isinstance(each, ast.Assign)]
            self.assert_none(each.name for each in node.names if each.name not in defined or each.asname)
            drawn[name].append(source)
        self.assertEqual(drawn["__init__.py"], [])
        left = dict(drawn)
        while left:
            free = [name for name in left if not any(source in left for source in left[name])]
            self.assertTrue(free, left)
            left = {name: left[name] for name in left if name not in free}

    def test_functions_and_classes(self):
        for name, node in self.each((ast.FunctionDef, ast.Lambda)):
            found = node.args
            self.assertFalse(found.vararg or found.kwarg or found.kwonlyargs or found.posonlyargs, (name, node.lineno))
            self.assert_none(each for each in found.defaults if not isinstance(each, ast.Constant))
            self.assert_none(each.arg for each in found.args if each.annotation)
        for name, node in self.each((ast.FunctionDef, ast.ClassDef)):
            self.assertEqual(node.decorator_list, [])
        for name, node in self.each(ast.ClassDef):
            self.assertLessEqual(len(node.bases), 1)
            self.assert_none(each for each in node.body if not isinstance(each, (ast.FunctionDef, ast.Pass, ast.Expr)))
            methods = [each.name for each in node.body if isinstance(each, ast.FunctionDef)]
            self.assertEqual(len(methods), len(set(methods)))

    def test_statements_and_expressions(self):
        for name, node in self.each((ast.stmt, ast.expr)):
            allowed = STATEMENTS if isinstance(node, ast.stmt) else EXPRESSIONS
            self.assertIsInstance(node, allowed, (name, node.lineno))
        for name, node in self.each(ast.Constant):
            self.assertIsInstance(node.value, (int, str, bool, type(None)), (name, node.lineno))
        for name, node in self.each(ast.Assign):
            self.assertEqual(len(node.targets), 1, (name, node.lineno))
        for name, node in self.each((ast.For, ast.While)):
            self.assertEqual(node.orelse, [], (name, node.lineno))
        for name, node in self.each(ast.Try):
            self.assertEqual(node.finalbody, [], (name, node.lineno))
        for name, node in self.each(ast.ListComp):
            self.assertTrue(len(node.generators) == 1 and len(node.generators[0].ifs) <= 1, (name, node.lineno))
        self.assert_none((name, node) for name, node in self.each((ast.Div, ast.MatMult)))

    def test_keywords_of_python_s_own(self):
        for name, node in self.each(ast.Call):
            word = called(node)
            if word in OWN_OF_PYTHON + METHODS:
                self.assert_none((name, word, each.arg) for each in node.keywords
                                 if each.arg not in KEYWORDS.get(word, []))

    def test_walked_at_once_and_no_sets_kept(self):
        for name, tree in self.trees.items():
            fitting = [id(node) for node in walked_on_the_spot(tree)]
            kept = [node for node in walked(tree, ast.Call) if called(node) in WALKED and id(node) not in fitting]
            self.assert_none((name, node.lineno) for node in kept)
            self.assert_none((name, node.lineno) for node in walked(tree, (ast.Assign, ast.Return, ast.For))
                             if called(getattr(node, "value", getattr(node, "iter", None))) in ("set", "frozenset"))

    def test_what_a_loop_walks_is_not_changed_in_it(self):
        for name, node in self.each(ast.For):
            source = node.iter.args[0] if called(node.iter) in WALKED and getattr(node.iter, "args", []) else node.iter
            if called(source) in ("items", "keys", "values"):
                source = source.func.value
            changed = [each.func.value for each in walked(node, ast.Call) if called(each) in CHANGES]
            changed += [each.value for each in walked(node, ast.Subscript) if isinstance(each.ctx, ast.Store)]
            self.assertNotIn(ast.dump(source), [ast.dump(each) for each in changed], (name, node.lineno))

    def test_min_and_max_walk_nothing_kept_beside_keywords(self):
        for name, node in self.each(ast.Call):
            if called(node) in ("min", "max") and node.args and called(node.args[0]) in WALKED:
                self.assertEqual((len(node.args), node.keywords), (1, []), (name, node.lineno))

    def test_values_of_the_tops_are_plain_and_bound_once(self):
        for name, tree in self.trees.items():
            given = [node for node in tree.body if isinstance(node, ast.Assign)]
            bound = [node.targets[0].id for node in given]
            self.assertEqual(len(bound), len(set(bound)), name)
            for node in given:
                self.assert_none((name, each.lineno) for each in walked(node.value, ast.expr)
                                 if not isinstance(each, (ast.Constant, ast.Tuple)))

    def test_sorting_keys_and_written_truths(self):
        for name, node in self.each(ast.keyword):
            if node.arg == "key":
                self.assertIsInstance(node.value, ast.Lambda, (name, node.value.lineno))
            if node.arg in ("reverse", "strict"):
                self.assertIn(getattr(node.value, "value", None), (True, False), (name, node.value.lineno))

    def test_texts(self):
        self.assert_none((name, node.value) for name, node in self.each(ast.Constant)
                         if isinstance(node.value, str) and "%" in node.value)
        for name, node in self.each(ast.FormattedValue):
            self.assertTrue(isinstance(node.value, ast.Name) and node.format_spec is None, (name, node.lineno))

    def test_is_stands_beside_none_true_and_false(self):
        for name, node in self.each(ast.Compare):
            for sign, right in zip(node.ops, node.comparators):
                if isinstance(sign, (ast.Is, ast.IsNot)):
                    self.assertTrue(isinstance(right, ast.Constant) and not isinstance(right.value, str), name)

    def test_names(self):
        for name, tree in self.trees.items():
            bound = bound_names(tree)
            for word in bound:
                self.assertTrue(word in DUNDERS or re.match(r"^[A-Za-z][A-Za-z0-9_]*$", word), (name, word))
            stored = [node.id for node in walked(tree, ast.Name) if isinstance(node.ctx, ast.Store)]
            stored += [node.arg for node in walked(tree, ast.arg)]
            imported = [each.name for node in walked(tree, ast.ImportFrom) for each in node.names]
            taken = imported + [node.name for node in walked(tree, ast.ClassDef)]
            self.assert_none(word for word in stored if word in taken or hasattr(builtins, word))
            used = [node.id for node in walked(tree, ast.Name)]
            self.assert_none(word for word in used if word in NO_NAMES)
            self.assert_none(word for word in used if hasattr(builtins, word) and word not in OWN_OF_PYTHON)

    def test_methods_and_values(self):
        methods = [each.name for name, node in self.each(ast.ClassDef) for each in node.body
                   if isinstance(each, ast.FunctionDef)]
        values = [node.attr for name, node in self.each(ast.Attribute) if isinstance(node.ctx, ast.Store)]
        self.assertEqual(set(methods) & set(values), set())
        allowed = set(METHODS + methods + values + ["__init__"])
        self.assert_none((name, node.attr) for name, node in self.each(ast.Attribute) if node.attr not in allowed)


if __name__ == "__main__":
    unittest.main()
