"""The rules of the language subset that can be seen file by file.

This is no full check: it looks for what is easily written by habit. The rules are named as in
LANGUAGE.md.
"""

import ast
import builtins
import io
import re
import tokenize
import unittest
from pathlib import Path

PACKAGE = Path(__file__).resolve().parent.parent / "lawseries"
LIBRARY = {
    "heapq": {"heappush", "heappop", "heapify", "heapreplace", "heappushpop"},
    "math": {"gcd", "lcm", "isqrt", "comb", "perm", "factorial"},
    "itertools": {"chain", "accumulate", "pairwise", "islice", "zip_longest",
                  "combinations", "permutations"},
    "collections": {"defaultdict"},
}
BUILTINS = set("""
    len range enumerate zip min max sum abs sorted reversed int str bool list tuple dict set
    isinstance ord repr any all divmod pow getattr hasattr setattr iter next map super property
    staticmethod classmethod Exception ValueError TypeError KeyError IndexError LookupError
    ZeroDivisionError ArithmeticError OverflowError RuntimeError NotImplementedError
    AttributeError StopIteration NotImplemented object
""".split())
METHODS = set("""
    __init__ __eq__ __repr__ __str__ __len__ __enter__ __exit__ __call__ __iter__ __contains__
""".split())
NEVER_NAMES = {"register", "mro", "elements", "open", "input", "law", "version_info"}
NEVER_WORDS = set("""
    type typing typing_extensions enum Enum IntEnum StrEnum Flag IntFlag Generic Protocol ABC
    ABCMeta namedtuple NamedTuple TypedDict TYPE_CHECKING abstractmethod
""".split())
LISTED_METHODS = set("""
    append clear copy count endswith extend find get index insert isalnum isalpha isdigit islower
    isspace isupper items join keys ljust lower lstrip partition pop remove replace reverse rfind
    rjust rpartition rsplit rstrip setdefault split splitlines startswith strip update upper values
    zfill bit_length title capitalize swapcase casefold center expandtabs removeprefix removesuffix
    rindex isascii isdecimal isnumeric istitle isidentifier isprintable
""".split())
STATEMENTS = (ast.Import, ast.Global, ast.AsyncFunctionDef, ast.AsyncFor, ast.AsyncWith)
BEGINNINGS = ("__", "_wall", "_pe_", "_dcw_", "_enum_", "_cm_", "_twin_re_", "_lay_", "_law_",
              "_stub_", "_sre", "_cold", "_tuplegetter", "_outside", "_record", "_written_out",
              "_member_names")


def source_files():
    return sorted(path for path in PACKAGE.rglob("*.py"))


def bound_names(tree):
    """Names that a file binds: functions, classes, parameters, variables and imports."""
    for node in ast.walk(tree):
        if isinstance(node, (ast.FunctionDef, ast.ClassDef)):
            yield node.name
        elif isinstance(node, ast.arg):
            yield node.arg
        elif isinstance(node, ast.Name) and not isinstance(node.ctx, ast.Load):
            yield node.id
        elif isinstance(node, ast.alias):
            yield node.asname or node.name


def defined_at_top(path):
    names = []
    for node in ast.parse(path.read_text()).body:
        if isinstance(node, (ast.FunctionDef, ast.ClassDef)):
            names.append(node.name)
        elif isinstance(node, ast.Assign):
            names.append(node.targets[0].id)
    return names


def module_path(name):
    path = PACKAGE.parent.joinpath(*name.split("."))
    return path / "__init__.py" if path.is_dir() else path.with_suffix(".py")


class TestLanguage(unittest.TestCase):
    def setUp(self):
        self.trees = {path: ast.parse(path.read_text()) for path in source_files()}

    def nodes(self):
        for path, tree in self.trees.items():
            for node in ast.walk(tree):
                yield f"{path.name}:{getattr(node, 'lineno', 0)}", node

    def test_files(self):
        """L1, L14: plain names, an __init__.py in each folder, nothing else."""
        self.assertLessEqual(len(source_files()), 100)
        for path in PACKAGE.rglob("*"):
            if "__pycache__" in path.parts:
                continue
            with self.subTest(path=path):
                self.assertRegex(path.stem, r"^[a-z0-9_]+$")
                if path.is_dir():
                    self.assertTrue((path / "__init__.py").is_file())
                    self.assertFalse(path.with_suffix(".py").exists())
                else:
                    self.assertEqual(path.suffix, ".py")

    def test_sizes_and_signs(self):
        """L10, L14."""
        for path in source_files():
            text = path.read_text(encoding="utf-8")
            with self.subTest(path=path):
                self.assertLessEqual(len(text.splitlines()), 399)
                self.assertLessEqual(max(map(len, text.splitlines()), default=0), 120)
                self.assertRegex(text, r"\A[ -~\n]*\Z")
        for place, node in self.nodes():
            if isinstance(node, ast.FunctionDef):
                self.assertLessEqual(node.end_lineno - node.lineno, 39, place)

    def test_imports(self):
        """L2, L16: full names, from the very file that defines them."""
        for path, tree in self.trees.items():
            for node in ast.walk(tree):
                if not isinstance(node, ast.ImportFrom):
                    continue
                with self.subTest(path=path, module=node.module):
                    self.assertIn(node, tree.body)
                    self.assertEqual(node.level, 0)
                    names = [alias.name for alias in node.names]
                    if node.module in LIBRARY:
                        self.assertLessEqual(set(names), LIBRARY[node.module])
                        self.assertFalse(any(alias.asname for alias in node.names))
                    elif node.module != "__future__":
                        self.assertTrue(node.module.startswith("lawseries."))
                        self.assertLessEqual(set(names), set(defined_at_top(module_path(node.module))))

    def test_no_import_in_a_circle(self):
        """L16."""
        ahead = {
            path: [module_path(node.module) for node in tree.body
                   if isinstance(node, ast.ImportFrom) and node.module.startswith("lawseries")]
            for path, tree in self.trees.items()
        }
        while ahead:
            free = [path for path, wanted in ahead.items() if not any(one in ahead for one in wanted)]
            self.assertTrue(free, list(ahead))
            ahead = {path: wanted for path, wanted in ahead.items() if path not in free}

    def test_module_level(self):
        """L3, L15: docstrings, imports, functions, classes and plain names, each bound once."""
        for path, tree in self.trees.items():
            names = defined_at_top(path)
            names += [alias.name for node in tree.body if isinstance(node, ast.ImportFrom)
                      for alias in node.names]
            self.assertEqual(len(names), len(set(names)), path)
            for place, node in enumerate(tree.body):
                with self.subTest(path=path, line=node.lineno):
                    if isinstance(node, ast.Assign):
                        self.assertEqual([type(one) for one in node.targets], [ast.Name])
                    elif isinstance(node, ast.Expr):
                        self.assertEqual((place, type(node.value)), (0, ast.Constant))
                    else:
                        kinds = (ast.ImportFrom, ast.FunctionDef, ast.ClassDef)
                        self.assertIsInstance(node, kinds)

    def test_statements_and_signs(self):
        """L6, L7, L27: no float, no /, exponents written out, no generator expression."""
        for place, node in self.nodes():
            self.assertNotIsInstance(node, STATEMENTS, place)
            self.assertNotIsInstance(node, ast.GeneratorExp, place)
            if isinstance(node, ast.Constant):
                self.assertNotIsInstance(node.value, (float, complex), place)
                self.assertNotIn("%", node.value if isinstance(node.value, str) else "", place)
            if isinstance(node, (ast.BinOp, ast.AugAssign)):
                self.assertNotIsInstance(node.op, ast.Div, place)
            if isinstance(node, ast.BinOp) and isinstance(node.op, ast.Pow):
                self.assertIsInstance(node.right, (ast.Constant, ast.Name, ast.BinOp), place)
            if isinstance(node, ast.Compare):
                for sign, other in zip(node.ops, node.comparators):
                    if isinstance(sign, (ast.Is, ast.IsNot)):
                        self.assertIsInstance(other, (ast.Constant, ast.Name), place)

    def test_builtins(self):
        """L8, L15: only the listed builtins, and no name of a builtin for anything else."""
        every = set(dir(builtins))
        for place, node in self.nodes():
            if isinstance(node, ast.Name) and isinstance(node.ctx, ast.Load) and node.id in every:
                self.assertIn(node.id, BUILTINS, place)
        for path, tree in self.trees.items():
            self.assertFalse(set(bound_names(tree)) & every, path)

    def test_names(self):
        """L5, L8, L12, L17."""
        for path, tree in self.trees.items():
            for name in bound_names(tree):
                with self.subTest(path=path, name=name):
                    self.assertNotIn(name, NEVER_NAMES)
                    self.assertTrue(name in METHODS or not name.startswith(BEGINNINGS))
        for place, node in self.nodes():
            if isinstance(node, ast.Attribute):
                self.assertNotIn(node.attr, NEVER_NAMES, place)
            if isinstance(node, ast.keyword):
                self.assertNotIn(node.arg, NEVER_NAMES, place)

    def test_names_of_imports_and_classes(self):
        """L15: no parameter and no variable has the name of an import or a class of its file."""
        for path, tree in self.trees.items():
            taken = {node.name for node in tree.body if isinstance(node, ast.ClassDef)}
            for node in tree.body:
                if isinstance(node, ast.ImportFrom):
                    taken |= {alias.name for alias in node.names}
            for node in ast.walk(tree):
                if isinstance(node, ast.arg):
                    self.assertNotIn(node.arg, taken, path)
                if isinstance(node, ast.Name) and not isinstance(node.ctx, ast.Load):
                    self.assertNotIn(node.id, taken, path)

    def test_methods_and_attributes(self):
        """L18, L25, L26: own methods or listed ones; no name is a method here and an attribute there."""
        methods, properties, attributes = set(), set(), set()
        for _, node in self.nodes():
            if isinstance(node, ast.ClassDef):
                for one in node.body:
                    if isinstance(one, ast.FunctionDef):
                        told = {ast.unparse(part) for part in one.decorator_list}
                        (properties if "property" in told else methods).add(one.name)
            if isinstance(node, ast.Attribute) and isinstance(node.ctx, ast.Store):
                attributes.add(node.attr)
        self.assertFalse(properties & attributes)
        self.assertFalse(methods & attributes)
        self.assertFalse(methods & properties)
        self.assertFalse((properties | attributes) & LISTED_METHODS)
        for place, node in self.nodes():
            if isinstance(node, ast.Call) and isinstance(node.func, ast.Attribute):
                self.assertIn(node.func.attr, methods | LISTED_METHODS, place)

    def test_no_sets_and_no_try(self):
        """L19, L24: the package does without them, so no rule of theirs can be broken."""
        for place, node in self.nodes():
            self.assertNotIsInstance(node, (ast.Set, ast.SetComp, ast.Try), place)
            if isinstance(node, ast.Name):
                self.assertNotIn(node.id, ("set", "frozenset"), place)

    def test_exponents(self):
        """L27: an exponent is a literal from 0 to 64."""
        for place, node in self.nodes():
            if isinstance(node, (ast.BinOp, ast.AugAssign)) and isinstance(node.op, ast.Pow):
                exponent = node.right if isinstance(node, ast.BinOp) else node.value
                self.assertIsInstance(exponent, ast.Constant, place)
                self.assertIn(exponent.value, range(65), place)

    def test_generators(self):
        """L23: a generator has a name of its own, and is iterated where it is called."""
        makers = {
            node.name for _, node in self.nodes() if isinstance(node, ast.FunctionDef)
            and any(isinstance(one, (ast.Yield, ast.YieldFrom)) for one in ast.walk(node))
        }
        iterated = set()
        for _, node in self.nodes():
            if isinstance(node, ast.For):
                iterated.add(node.iter)
            if isinstance(node, ast.YieldFrom):
                iterated.add(node.value)
            if isinstance(node, ast.Call) and getattr(node.func, "id", "") in ("list", "tuple", "sum"):
                iterated.add(node.args[0])
        for place, node in self.nodes():
            if isinstance(node, ast.Call) and getattr(node.func, "id", "") in makers:
                self.assertIn(node, iterated, place)
                self.assertTrue(all(isinstance(one, ast.Name) for one in node.args), place)

    def test_changes_of_what_is_walked(self):
        """L5 Iteration, L23: what +=, extend and update are given is not what they change."""
        for place, node in self.nodes():
            if isinstance(node, ast.AugAssign):
                changed, given = node.target, [node.value]
                if isinstance(changed, ast.Name):
                    continue
            elif isinstance(node, ast.Call) and getattr(node.func, "attr", "") in ("extend", "update"):
                changed, given = node.func.value, node.args
            else:
                continue
            while isinstance(changed, ast.Subscript):
                changed = changed.value
            inside = [ast.unparse(one) for value in given for one in ast.walk(value)
                      if isinstance(one, (ast.Name, ast.Attribute))]
            self.assertNotIn(ast.unparse(changed), inside, place)

    def test_words(self):
        """L17: words that stand in comments and docstrings alone."""
        for path, tree in self.trees.items():
            told = {
                node.body[0].lineno for node in ast.walk(tree)
                if isinstance(node, (ast.Module, ast.FunctionDef, ast.ClassDef))
                and ast.get_docstring(node) is not None
            }
            for token in tokenize.generate_tokens(io.StringIO(path.read_text()).readline):
                docstring = token.type == tokenize.STRING and token.start[0] in told
                if token.type == tokenize.COMMENT or docstring:
                    continue
                found = set(re.findall(r"\w+", token.string)) & NEVER_WORDS
                self.assertFalse(found, f"{path}:{token.start[0]}")

    def test_with(self):
        """L6 With: an __exit__ only puts back what it keeps, and asks nothing of the error."""
        for place, node in self.nodes():
            if isinstance(node, ast.FunctionDef) and node.name == "__exit__":
                self.assertEqual([one.arg for one in node.args.args], ["self", "kind", "value", "trace"], place)
                for row in node.body:
                    self.assertIsInstance(row, ast.Assign, place)
                    self.assertIsInstance(row.value, ast.Attribute, place)
                    self.assertIsInstance(row.value.value, ast.Name, place)
                    self.assertNotIn(row.value.value.id, ("kind", "value", "trace"), place)
            if isinstance(node, ast.With):
                for item in node.items:
                    self.assertIsInstance(item.context_expr, (ast.Call, ast.Name, ast.Attribute), place)

    def test_decorators_and_errors(self):
        """L4, L5, L19: decorators of methods, errors that are made where they are raised."""
        for place, node in self.nodes():
            if isinstance(node, ast.ClassDef):
                self.assertFalse(node.decorator_list, place)
            if isinstance(node, ast.FunctionDef):
                told = {ast.unparse(one) for one in node.decorator_list}
                plain = {"property", "classmethod", "staticmethod", f"{node.name}.setter"}
                self.assertLessEqual(told, plain, place)
            if isinstance(node, ast.Raise) and node.exc is not None:
                self.assertIsInstance(node.exc, ast.Call, place)
                self.assertIsInstance(node.exc.func, ast.Name, place)


if __name__ == "__main__":
    unittest.main()
