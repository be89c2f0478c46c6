"""The rules of the language, as far as a program can see them in the files of the package."""

import ast
import builtins
import pathlib
import sys
import unittest

FOLDER = pathlib.Path(__file__).resolve().parent.parent / "stemsure"

BUILTINS = set(
    "len range enumerate zip min max sum abs sorted reversed int str bool list tuple dict set isinstance ord repr"
    " any all divmod Exception".split()
)

METHODS = set(
    "append clear copy count endswith extend find get index insert isalpha isdigit items join keys lower lstrip"
    " partition pop remove replace reverse rfind setdefault split splitlines startswith strip update upper values"
    " zfill".split()
)

STATEMENTS = (
    ast.FunctionDef, ast.ClassDef, ast.Return, ast.Delete, ast.Assign, ast.AugAssign, ast.For, ast.While, ast.If,
    ast.Raise, ast.Try, ast.Assert, ast.ImportFrom, ast.Expr, ast.Pass, ast.Break, ast.Continue,
)

NOT_ALLOWED = (
    # Rules that hold once a class of the package compares are kept to from the beginning.
    ast.GeneratorExp, ast.Yield, ast.YieldFrom, ast.Await, ast.AsyncFor, ast.Global, ast.Nonlocal,
    ast.NamedExpr, ast.Set, ast.Div, ast.MatMult, ast.JoinedStr, ast.Lambda,
)

LIBRARY = {"heapq": {"heappush", "heappop"}, "math": {"gcd", "comb"}, "itertools": {"product", "combinations"}}

BARRED_NAMES = set(
    "mro elements open input law version_info with_traceback add_note register attrgetter breakpoint builtins"
    " compile copyright credits delattr dir eval exec exit gc getattr globals hasattr help id importlib license"
    " locals methodcaller os quit setattr super type vars sys hash map filter next iter format object slice bytes"
    " frozenset print round pow property chr bin hex oct callable".split()
)

BARRED_WORDS = (
    r"\b(type|typing|enum|Enum|Flag|Generic|Protocol|ABC|namedtuple|NamedTuple|TypedDict)\b"
    r"|dataclass|overload|contextmanager|_wall|_WallAttr"
)


def files():
    return sorted(FOLDER.rglob("*.py"))


def module_name(path):
    parts = path.relative_to(FOLDER.parent).with_suffix("").parts
    return ".".join(part for part in parts if part != "__init__")


class TestLanguage(unittest.TestCase):
    def trees(self):
        for path in files():
            yield path.name, ast.parse(path.read_text())

    def nodes(self, *kinds):
        for name, tree in self.trees():
            for node in ast.walk(tree):
                if isinstance(node, kinds):
                    yield f"{name}:{getattr(node, 'lineno', 0)}", node

    def test_the_folder_has_nothing_else(self):
        found = [path for path in FOLDER.rglob("*") if "__pycache__" not in path.parts and path.is_file()]
        self.assertEqual(sorted(found), files())
        for path in files():
            self.assertRegex(path.name, r"^[a-z][a-z_]*[.]py$|^__init__[.]py$")
            self.assertNotIn(path.stem, set(sys.stdlib_module_names) | BUILTINS | BARRED_NAMES)

    def test_sizes_and_characters(self):
        for path in files():
            text = path.read_text()
            self.assertRegex(text, r"\A[ -~\n]*\n\Z", path.name)
            lines = text.split("\n")[:-1]
            self.assertLess(len(lines), 400, path.name)
            self.assertLessEqual(max(map(len, lines)), 120, path.name)
            self.assertNotRegex(text, "[ ]\n", path.name)
        for at, node in self.nodes(ast.FunctionDef):
            self.assertLessEqual(node.end_lineno - node.lineno + 1, 40, at)

    def test_module_level(self):
        for name, tree in self.trees():
            seen = []
            for node in tree.body:
                if isinstance(node, ast.Expr):
                    self.assertIs(node, tree.body[0], name)
                    self.assertIsInstance(node.value.value, str)
                elif isinstance(node, ast.Assign):
                    (target,) = node.targets
                    ast.literal_eval(node.value)
                    seen.append(target.id)
                elif isinstance(node, ast.ImportFrom):
                    seen += [alias.name for alias in node.names]
                else:
                    self.assertIsInstance(node, (ast.FunctionDef, ast.ClassDef), name)
                    seen.append(node.name)
            self.assertEqual(len(seen), len(set(seen)), name)

    def test_imports(self):
        known = {module_name(path): path for path in files()}
        needs = {name: set() for name in known}
        for name, path in known.items():
            for node in ast.walk(ast.parse(path.read_text())):
                self.assertNotIsInstance(node, ast.Import, name)
                if not isinstance(node, ast.ImportFrom):
                    continue
                self.assertEqual(node.level, 0)
                self.assertTrue(all(alias.asname is None for alias in node.names))
                names = {alias.name for alias in node.names}
                if node.module in LIBRARY:
                    self.assertLessEqual(names, LIBRARY[node.module])
                    continue
                self.assertLessEqual(names, self.defined(known[node.module]), name)
                needs[name].add(node.module)
        while needs:
            ready = [name for name in needs if not needs[name] & set(needs)]
            self.assertTrue(ready, "files that import from each other")
            for name in ready:
                del needs[name]

    def defined(self, path):
        body = ast.parse(path.read_text()).body
        names = {node.name for node in body if isinstance(node, (ast.FunctionDef, ast.ClassDef))}
        return names | {node.targets[0].id for node in body if isinstance(node, ast.Assign)}

    def test_statements_and_expressions(self):
        for at, node in self.nodes(ast.stmt):
            self.assertIsInstance(node, STATEMENTS, at)
        for at, node in self.nodes(*NOT_ALLOWED):
            self.fail(f"{at}: {type(node).__name__}")
        for at, node in self.nodes(ast.FunctionDef, ast.ClassDef):
            self.assertEqual(node.decorator_list, [], at)
            self.assertTrue(ast.get_docstring(node) or node.name.startswith("__"), at)
        for at, node in self.nodes(ast.Compare):
            for sign, right in zip(node.ops, node.comparators):
                if isinstance(sign, (ast.Is, ast.IsNot)):
                    self.assertIn(getattr(right, "value", 0), (None, True, False), at)
        for at, node in self.nodes(ast.Constant):
            self.assertIsInstance(node.value, (int, str, bool, type(None)), at)
            if isinstance(node.value, str):
                self.assertNotIn("%", node.value, at)

    def test_names(self):
        for at, node in self.nodes(ast.Name, ast.arg, ast.FunctionDef, ast.ClassDef, ast.Attribute):
            name = getattr(node, "id", None) or getattr(node, "arg", None) or getattr(node, "name", None) or node.attr
            self.assertRegex(name, r"^(_|_?[A-Za-z][A-Za-z0-9_]*|__(init|eq)__)$", at)
            self.assertNotIn(name, BARRED_NAMES, at)
            self.assertNotRegex(name, BARRED_WORDS, at)
            stored = isinstance(getattr(node, "ctx", None), ast.Store) or not hasattr(node, "ctx")
            if stored and not isinstance(node, ast.Attribute) and not name.startswith("__"):
                self.assertFalse(hasattr(builtins, name), at)
            if name == "_":
                self.assertTrue(stored, at)
        for at, node in self.nodes(ast.Constant):
            if isinstance(node.value, str) and "\n" not in node.value and not node.value.endswith("."):
                self.assertNotRegex(node.value, BARRED_WORDS, at)

    def test_local_names_are_not_those_of_the_file(self):
        for name, tree in self.trees():
            barred = {node.name for node in tree.body if isinstance(node, (ast.FunctionDef, ast.ClassDef))}
            for node in tree.body:
                if isinstance(node, ast.ImportFrom):
                    barred |= {alias.name for alias in node.names}
            for node in ast.walk(tree):
                if isinstance(node, ast.FunctionDef):
                    local = {part.arg for part in ast.walk(node) if isinstance(part, ast.arg)}
                    local |= {part.id for part in ast.walk(node)
                              if isinstance(part, ast.Name) and isinstance(part.ctx, ast.Store)}
                    self.assertFalse(local & barred, f"{name}: {node.name}")

    def test_calls(self):
        own = set()
        methods = set()
        for name, tree in self.trees():
            own |= {node.name for node in tree.body if isinstance(node, (ast.FunctionDef, ast.ClassDef))}
            for node in ast.walk(tree):
                if isinstance(node, ast.ClassDef):
                    methods |= {part.name for part in node.body if isinstance(part, ast.FunctionDef)}
        library = set().union(*LIBRARY.values())
        for at, node in self.nodes(ast.Call):
            if isinstance(node.func, ast.Name):
                self.assertIn(node.func.id, own | BUILTINS | library, at)
                if node.func.id in BUILTINS:
                    keys = {word.arg for word in node.keywords}
                    self.assertLessEqual(keys, {"key", "reverse", "default", "start", "strict"}, at)
            else:
                self.assertIsInstance(node.func, ast.Attribute, at)
                self.assertIn(node.func.attr, METHODS | methods, at)
                self.assertEqual(node.keywords, [], at)

    def test_sets_are_not_kept(self):
        for name, tree in self.trees():
            for node in ast.walk(tree):
                for child in ast.iter_child_nodes(node):
                    is_set = isinstance(child, ast.SetComp)
                    is_set |= isinstance(child, ast.Call) and getattr(child.func, "id", "") == "set"
                    if is_set:
                        held = isinstance(node, ast.Call) and getattr(node.func, "id", "") in ("len", "sorted")
                        self.assertTrue(held or isinstance(node, ast.Compare), f"{name}:{child.lineno}")

    def test_what_is_iterated_at_once_is_not_passed_on(self):
        callers = {"list", "tuple", "dict", "sorted", "sum", "any", "all", "enumerate", "zip", "min", "max"}
        for name, tree in self.trees():
            right = set()
            for node in ast.walk(tree):
                if isinstance(node, (ast.For, ast.comprehension)):
                    right.add(node.iter)
                elif isinstance(node, ast.Call) and getattr(node.func, "id", "") in callers:
                    right |= set(node.args)
                elif isinstance(node, ast.Call) and ast.unparse(node.func) == "reversed":
                    right |= {part for part in node.args if ast.unparse(part).startswith("range(")}
                elif isinstance(node, ast.Compare):
                    right |= {part for part in node.comparators if ast.unparse(part).startswith("range(")}
            for node in ast.walk(tree):
                if isinstance(node, ast.Call):
                    called = getattr(node.func, "id", None) or node.func.attr
                    if called in ("range", "zip", "enumerate", "reversed", "items", "keys", "values"):
                        self.assertIn(node, right, f"{name}:{node.lineno}")

    def test_parts_of_comprehensions_keep_their_names(self):
        # A comprehension within another one, or beside others there, gives no new meaning to a name of theirs.
        kinds = (ast.ListComp, ast.SetComp, ast.DictComp)
        for at, node in self.nodes(*kinds):
            outer = self.names_of(node)
            for inner in ast.walk(node):
                if isinstance(inner, kinds) and inner is not node:
                    self.assertFalse(outer & self.names_of(inner), at)

    def names_of(self, node):
        return {part.id for clause in node.generators for part in ast.walk(clause.target) if isinstance(part, ast.Name)}

    def test_equal_begins_with_the_class(self):
        for at, node in self.nodes(ast.FunctionDef):
            if node.name == "__eq__":
                self.assertRegex(ast.unparse(node.body[0]), r"^return isinstance\(other, [A-Z][A-Za-z]*\) and ", at)
                self.assertEqual(len(node.body), 1, at)

    def test_loops_do_not_change_what_they_go_over(self):
        changing = {"append", "clear", "extend", "insert", "pop", "remove", "reverse", "setdefault", "update"}
        for at, node in self.nodes(ast.For):
            over = {ast.unparse(part) for part in ast.walk(node.iter) if isinstance(part, (ast.Name, ast.Attribute))}
            for part in ast.walk(ast.Module(node.body, [])):
                if isinstance(part, ast.Call) and isinstance(part.func, ast.Attribute) and part.func.attr in changing:
                    self.assertNotIn(ast.unparse(part.func.value), over, at)
                if isinstance(part, ast.Subscript) and isinstance(part.ctx, ast.Store):
                    self.assertNotIn(ast.unparse(part.value), over, at)


if __name__ == "__main__":
    unittest.main()
