"""That the package keeps to the part of Python it is written in, as far as a look at the code can tell."""

import ast
import builtins
import pathlib
import re
import unittest

PACKAGE = pathlib.Path(__file__).resolve().parent.parent / "honestslot"

BUILTINS = set("len range enumerate zip min max sum abs sorted reversed int str bool list tuple dict set frozenset "
               "isinstance ord repr any all divmod".split())
METHODS = set("append clear copy count endswith extend find get index insert isalnum isalpha isdigit islower isspace "
              "isupper items join keys ljust lower lstrip partition pop remove replace reverse rfind rjust rpartition "
              "rsplit rstrip setdefault split splitlines startswith strip update upper values zfill bit_length".split())
WORDS = set("type typing typing_extensions enum Enum IntEnum StrEnum Flag IntFlag Generic Protocol ABC ABCMeta namedtuple "
            "NamedTuple TypedDict TYPE_CHECKING abstractmethod".split())
NEVER = set("register mro elements open input version_info with_traceback add_note format format_map sort args encode".split())
NODES = (ast.Module, ast.FunctionDef, ast.ClassDef, ast.arguments, ast.arg, ast.Assign, ast.AugAssign, ast.If, ast.While,
         ast.For, ast.Return, ast.Break, ast.Continue, ast.Pass, ast.Expr, ast.ImportFrom, ast.alias, ast.Constant,
         ast.Name, ast.Attribute, ast.Subscript, ast.Slice, ast.Call, ast.List, ast.Tuple, ast.Dict, ast.ListComp,
         ast.comprehension, ast.BinOp, ast.UnaryOp, ast.BoolOp, ast.Compare, ast.IfExp, ast.expr_context, ast.operator,
         ast.unaryop, ast.boolop, ast.cmpop)
OWN_TYPES = (str, int, list, dict, set, bytes)


def files():
    return sorted(PACKAGE.glob("*.py"))


def trees():
    return [(path.name, ast.parse(path.read_text())) for path in files()]


def nodes(*kinds):
    return [(name, node) for name, tree in trees() for node in ast.walk(tree) if isinstance(node, kinds)]


def local_names(function):
    found = [argument.arg for argument in function.args.args]
    return found + [node.id for node in ast.walk(function)
                    if isinstance(node, ast.Name) and isinstance(node.ctx, ast.Store)]


class Files(unittest.TestCase):
    def test_only_plain_files(self):
        names = sorted(path.name for path in PACKAGE.iterdir() if path.name != "__pycache__")
        self.assertIn("__init__.py", names)
        for name in names:
            self.assertRegex(name, r"^(__init__|[a-z][a-z0-9_]*)\.py$")
            self.assertNotIn(name[:-3], dir(builtins))

    def test_signs_and_sizes(self):
        for path in files():
            text = path.read_text()
            self.assertRegex(text, r"\A[ -~\n]*\Z", path.name)
            self.assertLessEqual(len(text.splitlines()), 400)
            self.assertLessEqual(max(len(line) for line in text.splitlines()), 120)
            self.assertEqual(set(re.findall(r"\w+", text)) & WORDS, set())
            self.assertNotRegex(text, "dataclass|overload|contextmanager")

    def test_functions_are_short(self):
        for name, function in nodes(ast.FunctionDef):
            self.assertLessEqual(function.end_lineno - function.lineno + 1, 40, function.name)

    def test_imports_are_of_the_package_and_form_no_circle(self):
        drawn = {"honestslot." + name[:-3]: set() for name, tree in trees()}
        for name, row in nodes(ast.ImportFrom):
            self.assertIn(row.module, drawn)
            self.assertEqual(row.level, 0)
            source = ast.parse((PACKAGE / (row.module.split(".")[1] + ".py")).read_text())
            defined = [node.name for node in source.body if isinstance(node, (ast.FunctionDef, ast.ClassDef))]
            defined += [node.targets[0].id for node in source.body if isinstance(node, ast.Assign)]
            for alias in row.names:
                self.assertIn(alias.name, defined)
                self.assertIsNone(alias.asname)
            drawn["honestslot." + name[:-3]].add(row.module)
        while drawn:
            free = [name for name, sources in drawn.items() if not sources & set(drawn)]
            self.assertTrue(free, drawn)
            for name in free:
                drawn.pop(name)


class Forms(unittest.TestCase):
    def test_statements_and_expressions(self):
        for name, tree in trees():
            for node in ast.walk(tree):
                self.assertIsInstance(node, NODES, (name, getattr(node, "lineno", 0)))

    def test_small_print_of_statements(self):
        for name, node in nodes(ast.Assign):
            self.assertEqual(len(node.targets), 1)
        for name, node in nodes(ast.For, ast.While):
            self.assertEqual(node.orelse, [])
        for name, node in nodes(ast.FunctionDef):
            self.assertEqual(node.decorator_list, [])
            self.assertFalse(node.args.vararg or node.args.kwarg or node.args.kwonlyargs or node.args.posonlyargs)
        for name, node in nodes(ast.ListComp):
            self.assertEqual(len(node.generators), 1)
            self.assertLessEqual(len(node.generators[0].ifs), 1)
        for name, node in nodes(ast.BinOp, ast.AugAssign):
            self.assertNotIsInstance(node.op, (ast.Div, ast.Pow, ast.MatMult))
        for name, node in nodes(ast.Compare):
            for operator in node.ops:
                self.assertNotIsInstance(operator, (ast.Is, ast.IsNot))
        for name, node in nodes(ast.Constant):
            self.assertNotIsInstance(node.value, (float, bytes, complex))
            self.assertNotIn("%", str(node.value))
        for name, node in nodes(ast.Call):
            self.assertEqual(node.keywords, [])

    def test_top_of_each_module(self):
        for name, tree in trees():
            self.assertTrue(ast.get_docstring(tree), name)
            bound = [node.targets[0].id for node in tree.body if isinstance(node, ast.Assign)]
            bound += [node.name for node in tree.body if isinstance(node, (ast.FunctionDef, ast.ClassDef))]
            bound += [alias.name for node in tree.body if isinstance(node, ast.ImportFrom) for alias in node.names]
            self.assertEqual(len(bound), len(set(bound)))
            for node in tree.body[1:]:
                self.assertIsInstance(node, (ast.ImportFrom, ast.FunctionDef, ast.ClassDef, ast.Assign))
                if isinstance(node, ast.Assign):
                    self.assertIs(type(ast.literal_eval(node.value)), int)


class Names(unittest.TestCase):
    def test_plain(self):
        for name, node in nodes(ast.Name, ast.arg, ast.Attribute, ast.FunctionDef, ast.ClassDef):
            word = next(getattr(node, part) for part in ("id", "arg", "attr", "name") if hasattr(node, part))
            if word != "__init__":
                self.assertRegex(word, r"^[A-Za-z][A-Za-z0-9_]*$")
            self.assertNotIn(word, NEVER)

    def test_only_allowed_builtins(self):
        for name, tree in trees():
            defined = {node.name for node in ast.walk(tree) if isinstance(node, (ast.FunctionDef, ast.ClassDef))}
            for node in ast.walk(tree):
                if isinstance(node, ast.Name) and isinstance(node.ctx, ast.Load) and node.id in dir(builtins):
                    self.assertIn(node.id, BUILTINS, name)
            self.assertEqual(defined & set(dir(builtins)), set())

    def test_locals_have_names_of_their_own(self):
        for name, tree in trees():
            taken = set(dir(builtins))
            taken |= {alias.name for node in tree.body if isinstance(node, ast.ImportFrom) for alias in node.names}
            taken |= {node.name for node in tree.body if isinstance(node, (ast.ClassDef, ast.FunctionDef))}
            for function in ast.walk(tree):
                if isinstance(function, ast.FunctionDef):
                    self.assertEqual(set(local_names(function)) & taken, set(), (name, function.name))

    def test_methods_and_values(self):
        methods = {node.name for name, owner in nodes(ast.ClassDef) for node in owner.body if isinstance(node, ast.FunctionDef)}
        values = {node.attr for name, node in nodes(ast.Attribute) if isinstance(node.ctx, ast.Store)}
        self.assertEqual(methods & values, set())
        of_python = {word for own in OWN_TYPES for word in dir(own)}
        self.assertEqual((methods | values) & of_python - {"__init__"}, set())
        for name, node in nodes(ast.Attribute):
            self.assertIn(node.attr, methods | values | METHODS)


if __name__ == "__main__":
    unittest.main()
