"""The rules L1 to L28 of LANGUAGE.md, as far as a look at the syntax of the package can tell.

The lists below are narrower than the rules: they have what the package uses, and grow with it.
"""

import ast
import builtins
import io
import pathlib
import re
import tokenize
import unittest
import warnings

FOLDER = pathlib.Path(__file__).resolve().parent.parent / "towerup"

BUILTINS = set(
    "len range enumerate zip min max sum abs sorted reversed int str bool bytes list tuple dict set frozenset "
    "isinstance ord repr any all divmod iter next map Exception ValueError TypeError KeyError IndexError LookupError "
    "ZeroDivisionError ArithmeticError OverflowError RuntimeError NotImplementedError AttributeError StopIteration "
    "NotImplemented".split())
METHODS = set(
    "append clear copy count endswith extend find get index insert isalnum isalpha isdigit islower isspace isupper "
    "items join keys ljust lower lstrip partition pop remove replace reverse rfind rjust rpartition rsplit rstrip "
    "setdefault split splitlines startswith strip update upper values zfill bit_length add discard".split())
CHANGING = {"append", "clear", "extend", "insert", "pop", "remove", "reverse", "setdefault", "update", "add",
            "discard", "sort"}
DUNDERS = {"__init__", "__eq__", "__contains__", "__len__", "__iadd__", "__enter__", "__exit__"}
WORDS = set(
    "type typing typing_extensions enum Enum IntEnum StrEnum Flag IntFlag Generic Protocol ABC ABCMeta namedtuple "
    "NamedTuple TypedDict TYPE_CHECKING abstractmethod".split())
NAMES = set(
    "register mro elements open input law version_info with_traceback add_note attrgetter breakpoint builtins compile "
    "copyright credits delattr dir eval exec exit gc getattr globals hasattr help id importlib license locals "
    "methodcaller os quit setattr super type vars sys __name__ _cold _tuplegetter _outside _record _written_out "
    "_member_names format format_map hex encode decode fromhex args".split())
PREFIXES = ("__", "_wall", "_pe_", "_dcw_", "_enum_", "_cm_", "_twin_re_", "_lay_", "_law_", "_stub_", "_sre")
STATEMENTS = (
    ast.Assign, ast.AugAssign, ast.If, ast.While, ast.For, ast.Return, ast.Break, ast.Continue, ast.Pass, ast.Raise,
    ast.Expr, ast.FunctionDef, ast.ClassDef, ast.ImportFrom, ast.Try)
EXPRESSIONS = (
    ast.Constant, ast.List, ast.Tuple, ast.Dict, ast.Set, ast.Name, ast.Attribute, ast.Subscript, ast.Slice, ast.Call,
    ast.BinOp, ast.UnaryOp, ast.BoolOp, ast.Compare, ast.IfExp, ast.ListComp, ast.DictComp, ast.SetComp, ast.Lambda,
    ast.Yield, ast.JoinedStr, ast.FormattedValue)
OPERATORS = (ast.Add, ast.Sub, ast.Mult, ast.FloorDiv, ast.Mod, ast.BitOr, ast.BitAnd, ast.BitXor, ast.LShift,
             ast.RShift)


def files():
    return sorted(path for path in FOLDER.rglob("*") if path.is_file() and "__pycache__" not in path.parts)


def parsed():
    for path in files():
        text = path.read_text(encoding="utf-8")
        yield path, text, ast.parse(text)


def nodes(*kinds):
    for path, _, tree in parsed():
        for node in ast.walk(tree):
            if isinstance(node, kinds):
                yield f"{path.name}:{getattr(node, 'lineno', 0)}", node


def with_parents(tree):
    for node in ast.walk(tree):
        for child in ast.iter_child_nodes(node):
            yield child, node


def bound_names(tree):
    """All names that functions, classes, imports, arguments and assignments bind."""
    for node in ast.walk(tree):
        if isinstance(node, (ast.FunctionDef, ast.ClassDef)):
            yield node.name, node.lineno
        elif isinstance(node, ast.arg):
            yield node.arg, node.lineno
        elif isinstance(node, ast.alias):
            yield node.asname or node.name, node.lineno
        elif isinstance(node, ast.ExceptHandler) and node.name:
            yield node.name, node.lineno
        elif isinstance(node, ast.Name) and isinstance(node.ctx, ast.Store):
            yield node.id, node.lineno


class Files(unittest.TestCase):
    def test_names_of_files(self):                                                      # L1, L14
        names = [path.relative_to(FOLDER).as_posix() for path in files()]
        self.assertIn("__init__.py", names)
        for name in names:
            self.assertRegex(name, r"^([a-z][a-z0-9_]*|__init__)\.py$")
            self.assertNotIn(name[:-3], dir(builtins))

    def test_sizes_and_characters(self):                                                # L10, L14, L12
        for path, text, tree in parsed():
            lines = text.split("\n")
            self.assertLessEqual(len(lines) - 1, 399, path)
            self.assertLessEqual(max(len(line) for line in lines), 120, path)
            self.assertTrue(all(sign == "\n" or " " <= sign <= "~" for sign in text), path)
            self.assertNotRegex(text, r"_wall\b|_WallAttr", path)
            for node in ast.walk(tree):
                if isinstance(node, ast.FunctionDef):
                    self.assertLessEqual(node.end_lineno - node.lineno + 1, 40, (path, node.name))

    def test_no_warnings(self):                                                         # L27
        for path, text, _ in parsed():
            with warnings.catch_warnings():
                warnings.simplefilter("error")
                compile(text, str(path), "exec")

    def test_strings_and_words(self):                                                   # L17, L27
        for path, text, tree in parsed():
            docs = {ast.get_docstring(node, clean=False) for node in ast.walk(tree)
                    if isinstance(node, (ast.Module, ast.ClassDef, ast.FunctionDef))}
            for token in tokenize.generate_tokens(io.StringIO(text).readline):
                where = f"{path.name}:{token.start[0]}"
                if token.type == tokenize.NAME:
                    self.assertNotIn(token.string, WORDS, where)
                elif token.type == tokenize.STRING:
                    self.assertRegex(token.string, "^f?[\"']", where)
                    self.assertNotRegex(token.string, r"\\[^n]", where)
            for node in ast.walk(tree):
                if isinstance(node, ast.Constant) and isinstance(node.value, str):
                    where = f"{path.name}:{node.lineno}"
                    self.assertNotIn("%", node.value, where)
                    self.assertNotRegex(node.value, r"^__.*__$", where)
                    if node.value not in docs:
                        self.assertEqual(WORDS & set(re.findall(r"\w+", node.value)), set(), where)

    def test_f_strings(self):                                                           # L7, L27
        for where, node in nodes(ast.FormattedValue):
            self.assertEqual((node.conversion, node.format_spec), (-1, None), where)
            inside = [each for each in ast.walk(node.value) if isinstance(each, ast.Constant)]
            self.assertEqual([each for each in inside if isinstance(each.value, str)], [], where)


class Modules(unittest.TestCase):
    def test_module_level(self):                                                        # L3, L15
        for path, _, tree in parsed():
            names = []
            for at, node in enumerate(tree.body):
                where = f"{path.name}:{node.lineno}"
                if isinstance(node, ast.Expr):
                    self.assertTrue(at == 0 and isinstance(node.value, ast.Constant), where)
                elif isinstance(node, ast.Assign):
                    self.assertEqual(len(node.targets), 1, where)
                    self.assertIsInstance(node.targets[0], ast.Name, where)
                    ast.literal_eval(node.value)
                    names.append(node.targets[0].id)
                elif isinstance(node, ast.ImportFrom):
                    names += [alias.name for alias in node.names]
                else:
                    self.assertIsInstance(node, (ast.FunctionDef, ast.ClassDef), where)
                    names.append(node.name)
            self.assertEqual(len(names), len(set(names)), path)

    def test_imports(self):                                                             # L2, L16
        defined = {f"towerup.{path.stem}": {name.name if hasattr(name, "name") else name.targets[0].id
                                            for name in tree.body
                                            if isinstance(name, (ast.FunctionDef, ast.ClassDef, ast.Assign))}
                   for path, _, tree in parsed()}
        imports = {}
        for path, _, tree in parsed():
            places = [at for at, node in enumerate(tree.body) if isinstance(node, ast.ImportFrom)]
            self.assertEqual(places, list(range(1, len(places) + 1)), path)
            imports[f"towerup.{path.stem}"] = [tree.body[at].module for at in places]
            for at in places:
                node = tree.body[at]
                self.assertEqual(node.level, 0)
                for alias in node.names:
                    self.assertIsNone(alias.asname)
                    self.assertIn(alias.name, defined[node.module], path)
                    used = [each for each in ast.walk(tree) if isinstance(each, ast.Name) and each.id == alias.name]
                    self.assertTrue(used, (path, alias.name))
        left = dict(imports)
        while left:
            free = [name for name, needed in left.items() if not set(needed) & set(left)]
            self.assertTrue(free, f"a circle of imports: {sorted(left)}")
            left = {name: needed for name, needed in left.items() if name not in free}

    def test_classes(self):                                                            # L5, L18
        for where, node in nodes(ast.ClassDef):
            self.assertEqual((node.decorator_list, node.keywords), ([], []), where)
            self.assertLessEqual(len(node.bases), 1, where)
            methods = []
            for part in node.body:
                if isinstance(part, ast.Expr):
                    self.assertIsInstance(part.value.value, str, where)
                else:
                    self.assertIsInstance(part, ast.FunctionDef, where)
                    methods.append(part.name)
            self.assertEqual(len(methods), len(set(methods)), where)
            attributes = {each.attr for each in ast.walk(node)
                          if isinstance(each, ast.Attribute) and isinstance(each.ctx, ast.Store)}
            self.assertEqual(attributes & set(methods), set(), where)
            for name in methods:
                self.assertTrue(not name.startswith("__") or name in DUNDERS, (where, name))


class Code(unittest.TestCase):
    def test_statements_and_expressions(self):                                          # L6, L7, L20, L22
        for where, node in nodes(ast.stmt):
            self.assertIsInstance(node, STATEMENTS, where)
            if isinstance(node, ast.Expr):
                self.assertTrue(isinstance(node.value, (ast.Call, ast.Yield)) or isinstance(node.value, ast.Constant)
                                and isinstance(node.value.value, str), where)
            if isinstance(node, ast.Raise):
                self.assertIsInstance(node.exc, ast.Call, where)
                self.assertIsNone(node.cause, where)
            if isinstance(node, ast.Try):
                self.assertEqual((node.orelse, node.finalbody), ([], []), where)
                own = {each.name for _, each in nodes(ast.ClassDef) if each.bases}
                for handler in node.handlers:
                    self.assertIsInstance(handler.type, ast.Name, where)
                    self.assertIn(handler.type.id, own, where)
        for where, node in nodes(ast.expr):
            self.assertIsInstance(node, EXPRESSIONS, where)
            if isinstance(node, ast.Constant):
                self.assertIsInstance(node.value, (int, str, bool, type(None)), where)
            if isinstance(node, ast.BinOp):
                self.assertIsInstance(node.op, OPERATORS, where)
            if isinstance(node, ast.Compare):
                for operator, value in zip(node.ops, node.comparators):
                    if isinstance(operator, (ast.Is, ast.IsNot)):
                        self.assertIsInstance(value, ast.Constant, where)
                        self.assertIn(value.value, (None, True, False), where)

    def test_functions(self):                                                           # L4, L21
        for where, node in nodes(ast.FunctionDef, ast.Lambda):
            arguments = node.args
            self.assertEqual((arguments.vararg, arguments.kwarg, arguments.posonlyargs), (None, None, []), where)
            for default in arguments.defaults + [each for each in arguments.kw_defaults if each is not None]:
                ast.literal_eval(default)
            if isinstance(node, ast.FunctionDef):
                self.assertEqual((node.decorator_list, node.returns), ([], None), where)
        for where, node in nodes(ast.arg):
            self.assertIsNone(node.annotation, where)

    def test_one_lambda_on_a_line(self):                                                # L13
        lines = [where for where, _ in nodes(ast.Lambda)]
        self.assertEqual(len(lines), len(set(lines)))

    def test_names(self):                                                               # L8, L12, L15, L17, L26
        for path, _, tree in parsed():
            own = {node.name for node in tree.body if isinstance(node, ast.ClassDef)}
            own |= {alias.name for node in tree.body if isinstance(node, ast.ImportFrom) for alias in node.names}
            for name, line in bound_names(tree):
                where = f"{path.name}:{line} {name}"
                if name in DUNDERS or name == "_":
                    continue
                self.assertNotIn(name, NAMES, where)
                self.assertFalse(name.startswith(PREFIXES), where)
                self.assertNotIn(name, dir(builtins), where)
            for node in ast.walk(tree):
                if isinstance(node, ast.Name) and node.id == "_":
                    self.assertIsInstance(node.ctx, ast.Store, f"{path.name}:{node.lineno}")
                if isinstance(node, ast.arg) or isinstance(node, ast.Name) and isinstance(node.ctx, ast.Store):
                    self.assertNotIn(getattr(node, "arg", getattr(node, "id", "")), own, f"{path.name}:{node.lineno}")
                if isinstance(node, ast.Attribute):
                    self.assertNotIn(node.attr, NAMES, f"{path.name}:{node.lineno}")

    def test_builtins_and_methods(self):                                                # L8, L22, L25
        own = {node.name for _, node in nodes(ast.FunctionDef)}
        for path, _, tree in parsed():
            bound = {name for name, _ in bound_names(tree)}
            for node in ast.walk(tree):
                where = f"{path.name}:{getattr(node, 'lineno', 0)}"
                if isinstance(node, ast.Name) and node.id not in bound:
                    self.assertIn(node.id, BUILTINS, where)
                if isinstance(node, ast.Call) and isinstance(node.func, ast.Attribute):
                    self.assertIn(node.func.attr, METHODS | own, where)
                if isinstance(node, ast.Call) and isinstance(node.func, ast.Name) and node.func.id in BUILTINS:
                    words = ["key"] if node.func.id in ("sorted", "min", "max") else []
                    self.assertTrue(all(each.arg in words for each in node.keywords), where)
            for node, parent in with_parents(tree):
                if isinstance(node, ast.Name) and node.id in BUILTINS - bound:
                    called = isinstance(parent, ast.Call) and parent.func is node
                    tested = isinstance(parent, (ast.Call, ast.Tuple, ast.ClassDef))
                    self.assertTrue(called or tested, f"{path.name}:{node.lineno}")

    def test_sets(self):                                                                # L24
        for path, _, tree in parsed():
            for node, parent in with_parents(tree):
                made = isinstance(node, (ast.Set, ast.SetComp)) or (
                    isinstance(node, ast.Call) and isinstance(node.func, ast.Name) and node.func.id == "set")
                if not made:
                    continue
                inside = isinstance(parent, ast.Call) and isinstance(parent.func, ast.Name) and (
                    parent.func.id in ("sorted", "len"))
                kept = isinstance(parent, ast.Assign) and isinstance(parent.targets[0], ast.Name)
                self.assertTrue(inside or kept, f"{path.name}:{node.lineno}")

    def test_views_are_iterated_at_once(self):                                          # L23
        for path, _, tree in parsed():
            for node, parent in with_parents(tree):
                if not isinstance(node, ast.Call):
                    continue
                name = getattr(node.func, "id", getattr(node.func, "attr", ""))
                if name in ("zip", "enumerate", "reversed", "range", "items", "keys", "values"):
                    at_once = isinstance(parent, (ast.For, ast.comprehension)) or (
                        isinstance(parent, ast.Call) and getattr(parent.func, "id", "") in BUILTINS)
                    self.assertTrue(at_once, f"{path.name}:{node.lineno}")

    def test_generators(self):                                                          # L23
        functions = [node for _, node in nodes(ast.FunctionDef)]
        names = [node.name for node in functions]
        own = {node.name for node in functions if any(isinstance(each, ast.Yield) for each in ast.walk(node))}
        for name in own:
            self.assertEqual(names.count(name), 1, name)
            self.assertNotIn(name, METHODS)
        for path, _, tree in parsed():
            parents = {child: node for child, node in with_parents(tree)}
            for node, parent in parents.items():
                where = f"{path.name}:{getattr(node, 'lineno', 0)}"
                if isinstance(node, ast.Yield):
                    self.assertIsInstance(parent, ast.Expr, where)
                name = getattr(node, "id", getattr(node, "attr", None))
                if name in own and isinstance(node, (ast.Name, ast.Attribute)):
                    self.assertTrue(isinstance(parent, ast.Call) and parent.func is node, where)
                    around = parents[parent]
                    at_once = isinstance(around, (ast.For, ast.comprehension)) and around.iter is parent
                    self.assertTrue(at_once or getattr(getattr(around, "func", None), "id", "") == "list", where)
            for node in ast.walk(tree):
                if isinstance(node, ast.FunctionDef) and node.name in own:
                    for each in ast.walk(node):
                        self.assertFalse(isinstance(each, ast.Return) and each.value is not None, node.name)

    def test_loops_do_not_change_what_they_iterate_over(self):                          # L23
        for where, node in nodes(ast.For):
            iterated = {each.id for each in ast.walk(node.iter) if isinstance(each, ast.Name)}
            for each in [inner for part in node.body for inner in ast.walk(part)]:
                changed = None
                if isinstance(each, ast.Call) and isinstance(each.func, ast.Attribute) and each.func.attr in CHANGING:
                    changed = each.func.value
                if isinstance(each, ast.Subscript) and isinstance(each.ctx, (ast.Store, ast.Del)):
                    changed = each.value
                if isinstance(each, ast.AugAssign):
                    changed = each.target
                if isinstance(changed, ast.Name):
                    self.assertNotIn(changed.id, iterated, where)

    def test_operators_change_nothing(self):                                            # L5, L28
        for where, node in nodes(ast.FunctionDef):
            if node.name in ("__eq__", "__contains__", "__len__", "__enter__"):
                self.assertTrue(all(isinstance(part, ast.Return) for part in node.body), where)
            if node.name == "__exit__":
                self.assertTrue(all(isinstance(part, ast.Pass) for part in node.body), where)
            if node.name == "__init__":
                self.assertFalse([each for each in ast.walk(node) if isinstance(each, ast.Return)], where)


if __name__ == "__main__":
    unittest.main()
