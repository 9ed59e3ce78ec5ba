"""The package keeps to the small part of Python it's written in, as far as a walk over its files can see."""

import ast
import builtins
import pathlib
import re
import unittest

PACKAGE = pathlib.Path(__file__).resolve().parent.parent / "marblebench"
OWN_NAMES = set("""len range enumerate zip min max sum abs sorted reversed int str bool list tuple dict set frozenset
    isinstance ord repr any all divmod Exception ValueError TypeError KeyError IndexError LookupError ZeroDivisionError
    ArithmeticError OverflowError RuntimeError NotImplementedError AttributeError StopIteration""".split())
METHODS = set("""append clear copy count endswith extend find get index insert isalnum isalpha isdigit islower isspace
    isupper items join keys ljust lower lstrip partition pop remove replace reverse rfind rjust rpartition rsplit rstrip
    setdefault split splitlines startswith strip update upper values zfill bit_length""".split())
CHANGING = set("append clear extend insert pop remove reverse setdefault update".split())
VALUE_NAMES = set("count index title find get join lower upper split strip copy add".split())
TWO_UNDERSCORES = set("__init__ __eq__ __repr__ __str__ __len__".split())
WORDS = set("""type typing typing_extensions enum Enum IntEnum StrEnum Flag IntFlag Generic Protocol ABC ABCMeta
    namedtuple NamedTuple TypedDict TYPE_CHECKING abstractmethod""".split())
PARTS_OF_WORDS = ["dataclass", "overload", "contextmanager"]
NOT_USED = set("""register mro elements open input version_info with_traceback add_note format format_map attrgetter
    breakpoint builtins compile copyright credits delattr dir eval exec exit gc getattr globals hasattr help id importlib
    license locals methodcaller os quit setattr super type vars sys""".split())
STATEMENTS = (ast.Assign, ast.AugAssign, ast.If, ast.While, ast.For, ast.Return, ast.Break, ast.Continue, ast.Pass,
              ast.Raise, ast.Try, ast.Expr, ast.FunctionDef, ast.ClassDef, ast.ImportFrom)
EXPRESSIONS = (ast.Constant, ast.List, ast.Tuple, ast.Dict, ast.BinOp, ast.UnaryOp, ast.BoolOp, ast.Compare, ast.IfExp,
               ast.Call, ast.Attribute, ast.Subscript, ast.Slice, ast.ListComp, ast.JoinedStr, ast.FormattedValue,
               ast.Name, ast.Lambda)
NOT_WALKED = set("zip enumerate reversed range items keys values".split())
WALKERS = set("list tuple dict sorted sum any all enumerate zip min max join".split())
KEYWORDS = {"sorted": {"key", "reverse"}, "min": {"key", "default"}, "max": {"key", "default"}, "sum": {"start"},
            "enumerate": {"start"}, "zip": {"strict"}}
OF_PYTHONS_VALUES = set().union(*[dir(kind) for kind in (str, int, list, dict, set, bytes)])


def called(node):
    """The name by which something is called, of a function or a method."""
    if not isinstance(node, ast.Call):
        return None
    return node.func.attr if isinstance(node.func, ast.Attribute) else getattr(node.func, "id", None)


def is_docstring(node):
    return isinstance(node, ast.Expr) and isinstance(node.value, ast.Constant) and isinstance(node.value.value, str)


class File:
    def __init__(self, path):
        self.path = path
        self.name = path.stem
        self.source = path.read_bytes().decode("ascii")
        self.tree = ast.parse(self.source)
        self.nodes = list(ast.walk(self.tree))
        self.functions = [node for node in self.nodes if isinstance(node, ast.FunctionDef)]
        self.classes = [node for node in self.tree.body if isinstance(node, ast.ClassDef)]
        self.imports = [node for node in self.nodes if isinstance(node, (ast.ImportFrom, ast.Import))]
        self.imported = [alias.asname or alias.name for node in self.imports for alias in node.names]
        self.top_values = [node.targets[0].id for node in self.tree.body if isinstance(node, ast.Assign)]
        self.defined = self.top_values + [
            node.name for node in self.tree.body if isinstance(node, (ast.FunctionDef, ast.ClassDef))]


FILES = [File(path) for path in sorted(PACKAGE.rglob("*.py"))]
CLASS_NAMES = {node.name for file in FILES for node in file.classes}
OWN_METHODS = {node.name for file in FILES for top in file.classes for node in top.body
               if isinstance(node, ast.FunctionDef)} - TWO_UNDERSCORES
OWN_VALUES = {node.attr for file in FILES for node in file.nodes
              if isinstance(node, ast.Attribute) and isinstance(node.ctx, ast.Store)}


class Language(unittest.TestCase):
    def each(self, kind):
        for file in FILES:
            for node in file.nodes:
                if isinstance(node, kind):
                    yield file, node

    def check(self, good, rule, file, node):
        self.assertTrue(good, "%s: %s, line %s" % (rule, file.name, getattr(node, "lineno", node)))

    def test_files(self):
        self.assertTrue((PACKAGE / "__init__.py").exists())
        for path in PACKAGE.rglob("*"):
            if "__pycache__" not in path.parts:
                self.assertTrue(path.suffix == ".py" or path.is_dir(), path)
        for file in FILES:
            self.check(re.fullmatch("[a-z][a-z0-9_]*|__init__|__main__", file.name), "L14", file, 0)
            self.check(file.name not in dir(builtins) and not file.name.startswith("test"), "L14", file, 0)
            lines = file.source.split("\n")
            self.check(len(lines) <= 401, "L10", file, len(lines))
            for number, line in enumerate(lines, start=1):
                self.check(len(line) <= 120, "L10", file, number)
                self.check(all(" " <= sign <= "~" for sign in line), "L14", file, number)

    def test_words(self):
        for file in FILES:
            for word in re.findall("[A-Za-z0-9_]+", file.source):
                self.check(word not in WORDS, "L17 " + word, file, 0)
                self.check(not any(part in word for part in PARTS_OF_WORDS), "L17 " + word, file, 0)

    def test_top_of_each_file(self):
        for file in FILES:
            self.check(is_docstring(file.tree.body[0]), "L3", file, 1)
            self.check(len(set(file.defined + file.imported)) == len(file.defined + file.imported), "L15", file, 1)
            for node in file.tree.body[1:]:
                self.check(isinstance(node, (ast.ImportFrom, ast.FunctionDef, ast.ClassDef, ast.Assign)), "L3", file, node)
                if isinstance(node, ast.Assign):
                    inner = list(ast.walk(node.value))
                    self.check(not any(isinstance(part, (ast.Call, ast.BinOp, ast.ListComp, ast.Set)) for part in inner),
                               "L3", file, node)
                    self.check(not any(isinstance(part, (ast.List, ast.Dict)) for part in inner[1:]), "L15", file, node)
                    names = [part.id for part in inner if isinstance(part, ast.Name)]
                    self.check(all(name in file.defined for name in names), "L3", file, node)

    def test_imports(self):
        by_module = {"marblebench." + file.name: file for file in FILES}
        drawn = {}
        for file in FILES:
            drawn[file.name] = [node.module.split(".")[-1] for node in file.imports]
            for node in file.imports:
                self.check(isinstance(node, ast.ImportFrom) and node.level == 0 and node in file.tree.body, "L2", file, node)
                self.check(node.module in by_module, "L2", file, node)
                for alias in node.names:
                    self.check(alias.name in by_module[node.module].defined, "L16", file, node)
        while drawn:
            free = [name for name in drawn if not any(other in drawn for other in drawn[name])]
            self.assertTrue(free, "L16: files draw from one another: %r" % drawn)
            drawn = {name: others for name, others in drawn.items() if name not in free}

    def test_statements_and_expressions(self):
        for file, node in self.each(ast.stmt):
            self.check(isinstance(node, STATEMENTS), "L6", file, node)
            if isinstance(node, ast.Assign):
                self.check(len(node.targets) == 1, "L6", file, node)
            if isinstance(node, (ast.For, ast.While)):
                self.check(not node.orelse, "L6", file, node)
            if isinstance(node, ast.Try):
                self.check(not node.finalbody, "L6", file, node)
            if isinstance(node, ast.Expr):
                self.check(isinstance(node.value, ast.Call) or is_docstring(node), "L6", file, node)
        for file, node in self.each(ast.expr):
            self.check(isinstance(node, EXPRESSIONS), "L7", file, node)
            if isinstance(node, ast.Constant):
                self.check(node.value is None or isinstance(node.value, (bool, int, str)), "L7", file, node)
                self.check("%" not in str(node.value), "L27", file, node)
            if isinstance(node, ast.ListComp):
                self.check(len(node.generators) == 1 and len(node.generators[0].ifs) <= 1, "L7", file, node)
            if isinstance(node, ast.BinOp):
                self.check(not isinstance(node.op, (ast.Div, ast.Pow, ast.MatMult)), "L7, L27", file, node)
        for file, node in self.each(ast.Compare):
            if any(isinstance(op, (ast.Is, ast.IsNot)) for op in node.ops):
                self.check(isinstance(node.comparators[0], ast.Constant), "L20", file, node)

    def test_functions(self):
        for file in FILES:
            for node in file.functions:
                self.check(node.end_lineno - node.lineno < 40, "L10", file, node)
                self.check(not node.decorator_list and node.returns is None, "L4, L21", file, node)
                rest = node.args.vararg or node.args.kwarg or node.args.kwonlyargs or node.args.posonlyargs
                self.check(not rest and all(arg.annotation is None for arg in node.args.args), "L4, L21", file, node)

    def test_names(self):
        for file in FILES:
            bound = [(node.id, node) for node in file.nodes if isinstance(node, ast.Name) and isinstance(node.ctx, ast.Store)]
            bound += [(node.arg, node) for node in file.nodes if isinstance(node, ast.arg)]
            bound += [(node.name, node) for node in file.nodes if isinstance(node, ast.ExceptHandler) and node.name]
            bound += [(node.name, node) for node in file.functions if node in file.tree.body]
            for name, node in bound:
                self.check(not name.startswith("_") and name not in NOT_USED, "L12, L17 " + name, file, node)
                self.check(name not in dir(builtins), "L15 " + name, file, node)
                self.check(name not in file.imported and name not in CLASS_NAMES, "L15 " + name, file, node)
            known = [name for name, node in bound] + file.imported + file.defined
            for node in file.nodes:
                if isinstance(node, ast.Name) and node.id not in known:
                    self.check(node.id in OWN_NAMES, "L8 " + node.id, file, node)

    def test_classes(self):
        self.assertEqual(OWN_METHODS & OWN_VALUES, set())
        for name in OWN_METHODS | OWN_VALUES:
            self.assertNotIn(name, NOT_USED)
            self.assertFalse(name.startswith("_"), name)
        for name in OWN_METHODS:
            self.assertTrue(name not in OF_PYTHONS_VALUES or name in METHODS | {"add", "discard"}, "L26 " + name)
        for name in OWN_VALUES:
            self.assertTrue(name not in OF_PYTHONS_VALUES | {"args"} or name in VALUE_NAMES, "L26 " + name)
        for file in FILES:
            self.assertEqual(len(file.classes), len([node for node in file.nodes if isinstance(node, ast.ClassDef)]))
            for node in file.classes:
                self.check(len(node.bases) <= 1 and not node.keywords and not node.decorator_list, "L5", file, node)
                for part in node.body:
                    self.check(isinstance(part, ast.FunctionDef) or is_docstring(part), "L5", file, part)

    def test_calls(self):
        for file, node in self.each(ast.Call):
            name = called(node)
            if isinstance(node.func, ast.Attribute):
                self.check(name in METHODS | OWN_METHODS | {"__init__"}, "L25 %s" % name, file, node)
            used = {keyword.arg for keyword in node.keywords}
            if name in OWN_NAMES | METHODS:
                self.check(used <= KEYWORDS.get(name, set()), "L22", file, node)
            self.check(name not in ("set", "frozenset"), "L24, best none", file, node)

    def test_walked_on_the_spot(self):
        for file in FILES:
            good = []
            for node in file.nodes:
                if isinstance(node, (ast.For, ast.comprehension)):
                    good.append(node.iter)
                if called(node) in WALKERS and node.args:
                    good += node.args if called(node) == "zip" else node.args[:1]
            for node in file.nodes:
                if called(node) in NOT_WALKED:
                    self.check(node in good, "L23", file, node)

    def test_what_is_walked_is_not_changed(self):
        for file, loop in self.each(ast.For):
            walked = [loop.iter] + (loop.iter.args if called(loop.iter) in NOT_WALKED else [])
            if called(loop.iter) in ("items", "keys", "values"):
                walked.append(loop.iter.func.value)
            walked = [ast.unparse(node) for node in walked]
            for node in [inner for part in loop.body for inner in ast.walk(part)]:
                if isinstance(node, ast.Subscript) and isinstance(node.ctx, ast.Store):
                    self.check(ast.unparse(node.value) not in walked, "L23", file, node)
                if called(node) in CHANGING and isinstance(node.func, ast.Attribute):
                    self.check(ast.unparse(node.func.value) not in walked, "L23", file, node)

    def test_values_of_the_top_are_only_read(self):
        for file, node in self.each((ast.Subscript, ast.Call)):
            tops = file.top_values + file.imported
            if isinstance(node, ast.Subscript) and isinstance(node.ctx, ast.Store):
                self.check(getattr(node.value, "id", None) not in tops, "L15", file, node)
            if called(node) in CHANGING and isinstance(node.func, ast.Attribute):
                self.check(getattr(node.func.value, "id", None) not in tops, "L15", file, node)

    def test_errors(self):
        for file, node in self.each(ast.ExceptHandler):
            self.check(isinstance(node.type, ast.Name), "L19", file, node)
            self.check(node.type.id in CLASS_NAMES | {"KeyError", "ZeroDivisionError", "StopIteration"}, "L19", file, node)
        for file, node in self.each(ast.Raise):
            self.check(isinstance(node.exc, ast.Call), "L19", file, node)


if __name__ == "__main__":
    unittest.main()
