"""Rules of LANGUAGE.md that can be seen in the code of the package."""

import ast
import builtins
from pathlib import Path
import re
import unittest

FOLDER = Path(__file__).resolve().parent.parent / "lostland"
LIBRARY = {"math": {"gcd", "lcm", "isqrt"}}
BUILTINS = set(
    "len range enumerate zip min max sum abs sorted reversed int str bool list tuple dict set "
    "isinstance ord repr any all divmod iter super ValueError LookupError IndexError KeyError "
    "TypeError NotImplemented property staticmethod map".split())
METHODS = set(
    "append clear copy count endswith extend find get index insert isalnum isalpha isdigit "
    "islower isspace isupper items join keys ljust lower lstrip partition pop remove replace "
    "reverse rfind rjust rpartition rsplit rstrip setdefault split splitlines startswith strip "
    "update upper values zfill bit_length isascii removeprefix removesuffix".split())
DUNDERS = set(
    "__init__ __eq__ __repr__ __len__ __call__ __iter__ __contains__ __bool__ __add__ __sub__ "
    "__mul__ __neg__ __and__ __or__".split())
NO_NAMES = set(
    "register mro elements open input law version_info with_traceback add_note attrgetter "
    "breakpoint compile copyright credits dir eval exec exit gc globals help id license locals "
    "os quit vars sys".split())
NO_WORDS = re.compile(
    r"\b(type|typing|enum|Enum|Flag|Generic|Protocol|ABC|namedtuple|NamedTuple)\b|dataclass")
NO_NODES = (
    ast.GeneratorExp, ast.Global, ast.AsyncFunctionDef, ast.Await, ast.YieldFrom,
    ast.TryStar, ast.With, ast.Match, ast.AnnAssign, ast.Delete, ast.Import, ast.Div, ast.Mod,
    ast.MatMult, ast.Lambda, ast.NamedExpr, ast.Nonlocal)
FILES = sorted(FOLDER.glob("*.py"))
TREES = {path.stem: ast.parse(path.read_text()) for path in FILES}


def defined(tree):
    """The names that a file binds at module level itself."""
    names = []
    for node in tree.body:
        if isinstance(node, (ast.FunctionDef, ast.ClassDef)):
            names.append(node.name)
        elif isinstance(node, ast.Assign):
            names.extend(target.id for target in node.targets)
    return names


def imported(tree):
    return [alias.name for node in tree.body if isinstance(node, ast.ImportFrom)
            for alias in node.names]


def functions(tree):
    return [node for node in ast.walk(tree) if isinstance(node, ast.FunctionDef)]


def local_names(function):
    found = [node.arg for node in ast.walk(function) if isinstance(node, ast.arg)]
    return found + [node.id for node in ast.walk(function)
                    if isinstance(node, ast.Name) and isinstance(node.ctx, ast.Store)]


def nodes(*kinds):
    """Pairs of the place and the node, for all nodes of some kinds."""
    return [(f"{name}.py, line {getattr(node, 'lineno', 0)}", node)
            for name, tree in TREES.items() for node in ast.walk(tree) if isinstance(node, kinds)]


class TestLanguage(unittest.TestCase):
    def test_folder_holds_plain_python_files_alone(self):
        for path in FOLDER.iterdir():
            if path.name != "__pycache__":
                self.assertRegex(path.name, r"^[a-z_]+\.py$")

    def test_characters_and_sizes(self):
        for path in FILES:
            text = path.read_bytes().decode("ascii")
            self.assertRegex(text, r"\A[ -~\n]*\Z", path.name)
            lines = text.split("\n")
            self.assertLessEqual(len(lines), 399, path.name)
            self.assertLessEqual(max(map(len, lines)), 120, path.name)
        for place, node in nodes(ast.FunctionDef):
            self.assertLessEqual(node.end_lineno - node.lineno + 1, 40, place)

    def test_imports(self):
        for place, node in nodes(ast.ImportFrom):
            self.assertEqual(node.level, 0, place)
            self.assertTrue(all(alias.asname is None for alias in node.names), place)
            names = {alias.name for alias in node.names}
            if node.module in LIBRARY:
                self.assertLessEqual(names, LIBRARY[node.module], place)
            else:
                package, _, name = node.module.partition(".")
                self.assertEqual(package, "lostland", place)
                self.assertLessEqual(names, set(defined(TREES[name])), place)

    def test_imports_are_used_and_have_no_circle(self):
        needs = {}
        for name, tree in TREES.items():
            needs[name] = {node.module.partition(".")[2] for node in tree.body
                           if isinstance(node, ast.ImportFrom) and "." in node.module}
            used = {node.id for node in ast.walk(tree) if isinstance(node, ast.Name)}
            self.assertLessEqual(set(imported(tree)), used, name)
        while needs:
            free = [name for name, others in needs.items() if not others & set(needs)]
            self.assertTrue(free, needs)
            for name in free:
                del needs[name]

    def test_module_level(self):
        for name, tree in TREES.items():
            for node in tree.body:
                self.assertIsInstance(node, (ast.Expr, ast.ImportFrom, ast.Assign,
                                             ast.FunctionDef, ast.ClassDef), name)
                if isinstance(node, ast.Expr):
                    self.assertIsInstance(node.value, ast.Constant, name)
            names = defined(tree) + imported(tree)
            self.assertEqual(len(names), len(set(names)), name)

    def test_names(self):
        for name, tree in TREES.items():
            barred = set(imported(tree)) | set(dir(builtins)) | NO_NAMES
            classes = {node.name for node in tree.body if isinstance(node, ast.ClassDef)}
            for function in functions(tree):
                self.assertFalse((barred | classes) & set(local_names(function)),
                                 (name, function.name))
            self.assertFalse((set(dir(builtins)) | NO_NAMES) & set(defined(tree)), name)

    def test_barred_nodes(self):
        self.assertEqual([place for place, _ in nodes(*NO_NODES)], [])

    def test_barred_words(self):
        docstrings = [node.body[0].value for _, node in nodes(
            ast.Module, ast.ClassDef, ast.FunctionDef) if ast.get_docstring(node)]
        for place, node in nodes(ast.Constant, ast.Name, ast.Attribute, ast.FunctionDef, ast.arg):
            if node in docstrings:
                continue
            for field in ("value", "id", "attr", "name", "arg"):
                word = getattr(node, field, "")
                if isinstance(word, str):
                    self.assertIsNone(NO_WORDS.search(word), place)
                    self.assertNotIn("%", word, place)
                self.assertNotIsInstance(word, (float, complex), place)

    def test_powers_and_identity(self):
        for place, node in nodes(ast.BinOp):
            if isinstance(node.op, ast.Pow):
                self.assertIsInstance(node.right, ast.Constant, place)
                self.assertLessEqual(node.right.value, 64, place)
        for place, node in nodes(ast.Compare):
            if any(isinstance(op, (ast.Is, ast.IsNot)) for op in node.ops):
                self.assertIsInstance(node.comparators[0], ast.Constant, place)

    def test_decorators(self):
        for place, node in nodes(ast.FunctionDef, ast.ClassDef):
            for decorator in node.decorator_list:
                self.assertIn(decorator.id, ("property", "staticmethod"), place)

    def test_calls(self):
        own = {node.name for _, node in nodes(ast.FunctionDef)}
        for place, node in nodes(ast.Call):
            if isinstance(node.func, ast.Name) and node.func.id in dir(builtins):
                self.assertIn(node.func.id, BUILTINS, place)
                self.assertTrue(node.func.id in ("sorted", "min", "max") or not node.keywords,
                                place)
            if isinstance(node.func, ast.Attribute):
                self.assertIn(node.func.attr, own | METHODS, place)
            for argument in node.args:
                if isinstance(argument, ast.Starred):
                    self.assertIsInstance(argument.value, (ast.Name, ast.Attribute), place)

    def test_double_underscore_methods(self):
        for place, node in nodes(ast.FunctionDef):
            if not node.name.startswith("__"):
                continue
            self.assertIn(node.name, DUNDERS, place)
            returns = [part for part in ast.walk(node) if isinstance(part, ast.Return)]
            if node.name == "__init__":
                self.assertEqual(returns, [], place)
            if node.name in ("__repr__", "__len__", "__eq__", "__bool__", "__iter__"):
                self.assertEqual(len(returns), 1, place)
                self.assertIs(node.body[-1], returns[0], place)
                self.assertFalse([part for part in ast.walk(node)
                                  if isinstance(part, (ast.Assign, ast.AugAssign))], place)
            if node.name == "__repr__":
                self.assertIsInstance(returns[0].value, ast.JoinedStr, place)
            if node.name in ("__len__", "__iter__"):
                self.assertIn(returns[0].value.func.id, ("len", "iter"), place)

    def test_caught_errors(self):
        own = defined(TREES["errors"])
        for place, node in nodes(ast.Try):
            for handler in node.handlers:
                kinds = handler.type.elts if isinstance(handler.type, ast.Tuple) else [handler.type]
                self.assertTrue(all(kind.id in own for kind in kinds), place)
            for row in node.finalbody:
                self.assertIsInstance(row, ast.Assign, place)
                self.assertIsInstance(row.value, ast.Constant, place)

    def test_generators(self):
        parents = {child: node for _, node in nodes(ast.AST) for child in ast.iter_child_nodes(node)}
        names = []
        for place, node in nodes(ast.FunctionDef):
            parts = list(ast.walk(node))
            yields = [part for part in parts if isinstance(part, ast.Yield)]
            if yields:
                names.append(node.name)
                self.assertFalse(node.decorator_list or node.name.startswith("__"), place)
                self.assertTrue(all(isinstance(parents[part], ast.Expr) for part in yields), place)
                self.assertFalse([part for part in parts if isinstance(part, ast.Return) and part.value], place)
        every = [node.name for _, node in nodes(ast.FunctionDef)]
        for name in names:
            self.assertEqual(every.count(name), 1, name)
            self.assertNotIn(name, METHODS)
        for place, node in nodes(ast.Name, ast.Attribute):
            if getattr(node, "id", getattr(node, "attr", None)) not in names:
                continue
            # It is only called, and the call is iterated at once.
            call = parents[node]
            self.assertTrue(isinstance(call, ast.Call) and call.func is node, place)
            use = parents[call]
            if isinstance(use, ast.Call):
                self.assertIn(use.func.id, ("list", "tuple", "sorted", "enumerate"), place)
            else:
                self.assertIsInstance(use, (ast.For, ast.comprehension), place)
                self.assertIs(use.iter, call, place)

    def test_kept_answers(self):
        kept = []
        for place, node in nodes(ast.FunctionDef):
            rows = [row for row in node.body if not isinstance(row, ast.Expr)]
            if not node.decorator_list or not isinstance(rows[0], ast.If):
                continue
            # if self._name is None: self._name = .., return self._name, and nothing else.
            self.assertEqual(len(rows), 2, place)
            self.assertEqual([len(rows[0].body), len(rows[0].orelse)], [1, 0], place)
            name = rows[0].test.left.attr
            self.assertEqual(ast.unparse(rows[0].test), f"self.{name} is None", place)
            self.assertEqual(ast.unparse(rows[0].body[0].targets[0]), f"self.{name}", place)
            self.assertEqual(ast.unparse(rows[1]), f"return self.{name}", place)
            kept.append(name)
        self.assertEqual(len(kept), len(set(kept)))
        for name in kept:
            found = [node for _, node in nodes(ast.Attribute) if node.attr == name]
            # Once in __init__, and three times in the property.
            self.assertEqual(len(found), 4, name)

    def test_no_name_is_a_method_and_an_attribute(self):
        for place, node in nodes(ast.ClassDef):
            methods = [part.name for part in node.body if isinstance(part, ast.FunctionDef)]
            attributes = {part.attr for part in ast.walk(node)
                          if isinstance(part, ast.Attribute) and isinstance(part.ctx, ast.Store)}
            self.assertEqual(len(methods), len(set(methods)), place)
            self.assertFalse(attributes & set(methods), place)


if __name__ == "__main__":
    unittest.main()
