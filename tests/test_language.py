"""The package keeps to the small part of Python that it is to be written in, as far as a walk over its files shows."""

import ast
import builtins
import pathlib
import re
import unittest

PACKAGE = pathlib.Path(__file__).resolve().parent.parent / "blockflow"

# Narrower than the rules where the program needs no more: no errors, lambdas, f-strings, sets or keywords.
STATEMENTS = (
    ast.Assign, ast.If, ast.While, ast.For, ast.Return, ast.Break, ast.Continue, ast.Pass, ast.Expr, ast.FunctionDef,
    ast.ClassDef, ast.ImportFrom,
)
EXPRESSIONS = (
    ast.BoolOp, ast.BinOp, ast.UnaryOp, ast.IfExp, ast.Dict, ast.ListComp, ast.Compare, ast.Call, ast.Constant,
    ast.Attribute, ast.Subscript, ast.Name, ast.List, ast.Tuple, ast.Slice,
)
OWN_NAMES_OF_PYTHON = """len range enumerate zip min max sum abs sorted reversed int str bool list tuple dict
    isinstance ord repr any all divmod""".split()
WALKED_AT_ONCE = "zip enumerate reversed range items keys values".split()
WALKERS = "list tuple dict sorted sum any all enumerate zip min max".split()
CHANGES = "append clear extend insert pop remove reverse setdefault update".split()
METHODS_OF_PYTHON = """append clear copy count endswith extend find get index insert isalnum isalpha isdigit islower
    isspace isupper items join keys ljust lower lstrip partition pop remove replace reverse rfind rjust rpartition
    rsplit rstrip setdefault split splitlines startswith strip update upper values zfill bit_length""".split()
WORDS_OUT = """type typing typing_extensions enum Enum IntEnum StrEnum Flag IntFlag Generic Protocol ABC ABCMeta
    namedtuple NamedTuple TypedDict TYPE_CHECKING abstractmethod register mro elements open input vars""".split()
NAMES_OUT = """attrgetter breakpoint builtins compile copyright credits delattr dir eval exec exit gc getattr globals
    hasattr help id importlib license locals methodcaller os quit setattr super sys type vars register mro elements
    open input version_info with_traceback add_note""".split()
FILES_OUT = """test tests testing site conftest sitecustomize usercustomize""".split()


def files():
    return sorted(path for path in PACKAGE.iterdir() if path.name != "__pycache__")


def trees():
    return [(path.name, ast.parse(path.read_text(encoding="ascii"))) for path in files()]


def nodes(kind):
    return [(name, node) for name, tree in trees() for node in ast.walk(tree) if isinstance(node, kind)]


def calls_by_name(tree):
    return [node for node in ast.walk(tree) if isinstance(node, ast.Call) and isinstance(node.func, ast.Name)]


def called(node):
    """The name or method that is called, or None."""
    if not isinstance(node, ast.Call):
        return None
    return node.func.id if isinstance(node.func, ast.Name) else getattr(node.func, "attr", None)


def defined_at_top(tree):
    found = [node.name for node in tree.body if isinstance(node, (ast.FunctionDef, ast.ClassDef))]
    return found + [node.targets[0].id for node in tree.body if isinstance(node, ast.Assign)]


def imported(tree):
    return [name.name for node in tree.body if isinstance(node, ast.ImportFrom) for name in node.names]


def bound_names(tree):
    found = [node.id for node in ast.walk(tree) if isinstance(node, ast.Name) and isinstance(node.ctx, ast.Store)]
    found += [node.arg for node in ast.walk(tree) if isinstance(node, ast.arg)]
    found += [node.name for node in ast.walk(tree) if isinstance(node, (ast.FunctionDef, ast.ClassDef))]
    return found + [name.name for node in ast.walk(tree) if isinstance(node, ast.ImportFrom) for name in node.names]


class Language(unittest.TestCase):
    def test_files(self):
        names = [path.name for path in files()]
        self.assertIn("__init__.py", names)
        for name in names:
            self.assertRegex(name, r"^([a-z][a-z0-9_]*|__init__)\.py$")
            self.assertNotIn(name[:-3], FILES_OUT + WORDS_OUT + NAMES_OUT + dir(builtins))
            self.assertFalse(name.startswith("test_"))

    def test_sizes_and_signs(self):
        for path in files():
            text = path.read_text(encoding="ascii")
            self.assertNotRegex(text, r"[^ -~\n]", path.name)
            self.assertLessEqual(len(text.splitlines()), 400, path.name)
            self.assertLessEqual(max(len(row) for row in text.splitlines()), 120, path.name)
            for word in WORDS_OUT:
                self.assertIsNone(re.search(r"\b" + word + r"\b", text), (path.name, word))
            self.assertNotRegex(text, "dataclass|overload|contextmanager", path.name)

    def test_functions_are_small_and_plain(self):
        for name, node in nodes(ast.FunctionDef):
            self.assertLessEqual(node.end_lineno - node.lineno + 1, 40, (name, node.name))
            self.assertEqual(node.decorator_list, [])
            self.assertFalse(node.args.vararg or node.args.kwarg or node.args.kwonlyargs or node.args.posonlyargs)

    def test_statements_and_expressions(self):
        for name, node in nodes((ast.stmt, ast.expr)):
            self.assertIsInstance(node, STATEMENTS + EXPRESSIONS, (name, node.lineno))
        for name, node in nodes(ast.Assign):
            self.assertEqual(len(node.targets), 1, (name, node.lineno))
            self.assertNotIsInstance(node.targets[0], (ast.Tuple, ast.List), (name, node.lineno))
        for name, node in nodes((ast.While, ast.For)):
            self.assertEqual(node.orelse, [], (name, node.lineno))
        for name, node in nodes(ast.ListComp):
            self.assertEqual(len(node.generators), 1, (name, node.lineno))
            self.assertLessEqual(len(node.generators[0].ifs), 1, (name, node.lineno))
        for name, node in nodes(ast.Constant):
            self.assertIsInstance(node.value, (int, str, bool, type(None)), (name, node.lineno))
        self.assertEqual(nodes((ast.Div, ast.Starred)), [])

    def test_a_text_by_itself_stands_at_a_files_top_alone(self):
        for name, tree in trees():
            first = tree.body[0]
            self.assertIsNotNone(ast.get_docstring(tree), name)
            for node in ast.walk(tree):
                if isinstance(node, ast.Expr) and node is not first:
                    self.assertIsInstance(node.value, ast.Call, (name, node.lineno))

    def test_the_top_of_a_file(self):
        for name, tree in trees():
            top = defined_at_top(tree) + imported(tree)
            self.assertEqual(sorted(set(top)), sorted(top), name)
            kept = {}
            for node in tree.body[1:]:
                self.assertIsInstance(node, (ast.ImportFrom, ast.FunctionDef, ast.ClassDef, ast.Assign), name)
                if isinstance(node, ast.Assign):
                    kept[node.targets[0].id] = ast.literal_eval(node.value)
            for word, value in kept.items():
                self.assertIsInstance(value, (int, str, tuple), (name, word))

    def test_imports(self):
        defined = {"blockflow." + name[:-3]: defined_at_top(tree) for name, tree in trees()}
        for name, tree in trees():
            others = [node for node in ast.walk(tree) if isinstance(node, ast.ImportFrom) and node not in tree.body]
            self.assertEqual(others, [], name)
        for name, node in nodes(ast.ImportFrom):
            self.assertEqual(node.level, 0, name)
            for alias in node.names:
                self.assertIn(alias.name, defined[node.module], name)
                self.assertIsNone(alias.asname, name)

    def test_no_two_files_draw_from_one_another(self):
        drawn = {path.stem: set() for path in files()}
        for name, node in nodes(ast.ImportFrom):
            drawn[name[:-3]] |= {node.module.split(".")[1], "__init__"}
        while drawn:
            free = [name for name in drawn if not drawn[name] & set(drawn)]
            self.assertNotEqual(free, [], drawn)
            for name in free:
                drawn.pop(name)

    def test_classes(self):
        values = {node.attr for name, node in nodes(ast.Attribute) if isinstance(node.ctx, ast.Store)}
        methods = []
        for name, node in nodes(ast.ClassDef):
            self.assertEqual([node.bases, node.keywords, node.decorator_list], [[], [], []], node.name)
            for part in node.body:
                self.assertIsInstance(part, ast.FunctionDef, node.name)
                self.assertTrue(not part.name.startswith("_") or part.name == "__init__", part.name)
                if part.name == "__init__":
                    self.assertEqual([inner for inner in ast.walk(part) if isinstance(inner, ast.Return)], [])
            own = [part.name for part in node.body]
            self.assertEqual(len(set(own)), len(own), node.name)
            methods += own
        self.assertEqual(values & set(methods), set())
        python_has = {word for kind in (str, int, list, tuple, dict, set, bytes) for word in dir(kind)} - {"__init__"}
        self.assertEqual((values | set(methods)) & python_has, set())
        for name, node in nodes(ast.Attribute):
            if isinstance(node.ctx, ast.Store):
                self.assertIsInstance(node.value, ast.Name, (name, node.lineno))

    def test_classes_and_pythons_own_are_called_and_not_kept(self):
        for name, tree in trees():
            spoken = [node for node in ast.walk(tree) if isinstance(node, ast.Name)]
            heads = [node.func for node in calls_by_name(tree)]
            for node in spoken:
                if node.id in OWN_NAMES_OF_PYTHON + ["Block", "Body"]:
                    self.assertIn(node, heads, (name, node.lineno))

    def test_no_keywords_annotations_or_is(self):
        for name, node in nodes(ast.Call):
            self.assertEqual(node.keywords, [], (name, node.lineno))
        for name, node in nodes(ast.arg):
            self.assertIsNone(node.annotation, (name, node.lineno))
        for name, node in nodes(ast.FunctionDef):
            self.assertIsNone(node.returns, (name, node.lineno))
        self.assertEqual(nodes((ast.Is, ast.IsNot, ast.Pow)), [])

    def test_functions_stand_at_the_top_or_in_a_class(self):
        for name, tree in trees():
            placed = [node for node in tree.body if isinstance(node, ast.FunctionDef)]
            for node in tree.body:
                placed += node.body if isinstance(node, ast.ClassDef) else []
            found = [node for node in ast.walk(tree) if isinstance(node, ast.FunctionDef)]
            self.assertEqual(len(found), len(placed), name)

    def test_what_is_to_be_walked_at_once_is(self):
        for name, tree in trees():
            walked = []
            for node in ast.walk(tree):
                if isinstance(node, (ast.For, ast.comprehension)):
                    walked.append(node.iter)
                elif called(node) in WALKERS:
                    walked.append(node.args[0])
            for node in ast.walk(tree):
                if called(node) in WALKED_AT_ONCE:
                    self.assertIn(node, walked, (name, node.lineno))

    def test_what_a_loop_walks_is_not_changed_in_it(self):
        for name, node in nodes(ast.For):
            walked = {ast.unparse(part) for part in ast.walk(node.iter) if isinstance(part, (ast.Name, ast.Attribute))}
            for inner in [inner for part in node.body for inner in ast.walk(part)]:
                if isinstance(inner, ast.Call) and called(inner) in CHANGES:
                    self.assertNotIn(ast.unparse(inner.func.value), walked, (name, inner.lineno))
                if isinstance(inner, ast.Subscript) and isinstance(inner.ctx, ast.Store):
                    self.assertNotIn(ast.unparse(inner.value), walked, (name, inner.lineno))

    def test_texts(self):
        for name, node in nodes(ast.Constant):
            if isinstance(node.value, str):
                self.assertNotIn("%", node.value, (name, node.lineno))
        for path in files():
            self.assertNotIn("\\", path.read_text(encoding="ascii"), path.name)

    def test_names(self):
        for name, tree in trees():
            bound = bound_names(tree)
            for word in bound:
                self.assertTrue(word in ("__init__",) or re.fullmatch("[A-Za-z][A-Za-z0-9_]*", word), (name, word))
                self.assertNotIn(word, dir(builtins) + NAMES_OUT, name)
            closed = imported(tree) + [node.name for node in tree.body if isinstance(node, ast.ClassDef)]
            local = [node for node in ast.walk(tree) if isinstance(node, ast.Name) and isinstance(node.ctx, ast.Store)]
            self.assertEqual([node.id for node in local if node.id in closed], [], name)
            given = [node.arg for node in ast.walk(tree) if isinstance(node, ast.arg)]
            self.assertEqual([word for word in given if word in closed], [], name)
            read = [node.id for node in ast.walk(tree) if isinstance(node, ast.Name)]
            self.assertEqual([word for word in read if word not in bound + OWN_NAMES_OF_PYTHON], [], name)

    def test_methods(self):
        own = [node.name for name, node in nodes(ast.FunctionDef)]
        for name, node in nodes(ast.Call):
            if isinstance(node.func, ast.Attribute):
                self.assertIn(node.func.attr, own + METHODS_OF_PYTHON, (name, node.lineno))


if __name__ == "__main__":
    unittest.main()
