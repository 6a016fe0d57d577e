"""The rules of the language of the program that can be seen from a file."""

import ast
import builtins
import pathlib
import re
import unittest

PACKAGE = pathlib.Path(__file__).resolve().parent.parent / "escheat"
FILES = sorted(PACKAGE.rglob("*.py"))

STATEMENTS = (
    ast.Assign, ast.AugAssign, ast.If, ast.While, ast.For, ast.Return, ast.Break, ast.Continue, ast.Pass, ast.Raise,
    ast.Assert, ast.Delete, ast.Expr, ast.FunctionDef, ast.ClassDef, ast.ImportFrom, ast.Try, ast.With,
)
# A try has one handler, without a name for the error, for one of these.
CAUGHT = ("FlatError", "RegionError", "StoreError", "CertificateError")
BUILTINS = (
    "len range enumerate zip min max sum abs sorted reversed int str bool list tuple dict set isinstance ord repr "
    "any all divmod super property ValueError"
)
# The methods that yield, each in a statement of its own.
YIELDING = ("current", "__iter__")
BARRED = (
    "type typing enum Enum Generic Protocol ABC namedtuple eval exec globals locals vars dir id open input register "
    "law elements mro compile getattr setattr hasattr"
)

# The methods of builtin values that are needed.
METHODS = "append count extend get index items join pop removeprefix setdefault split values"
BARRED_ATTRIBUTES = (
    "items keys values pop update append clear extend insert remove reverse setdefault sort args encode decode hex "
    "fromhex format"
)


def module_name(path):
    inner = path.relative_to(PACKAGE.parent).with_suffix("")
    return ".".join(part for part in inner.parts if part != "__init__")


def imports_of(tree):
    return [node for node in ast.walk(tree) if isinstance(node, (ast.Import, ast.ImportFrom))]


class RulesTest(unittest.TestCase):
    def each(self):
        for path in FILES:
            with self.subTest(path.name):
                text = path.read_text(encoding="utf-8")
                yield path, text, ast.parse(text)

    def test_files(self):
        inside = [path for path in PACKAGE.rglob("*") if path.is_file() and "__pycache__" not in path.parts]
        self.assertEqual(sorted(inside), FILES)
        self.assertIn(PACKAGE / "__init__.py", FILES)
        for path in FILES:
            self.assertRegex(path.name, r"\A[a-z0-9_]+\.py\Z")

    def test_characters_and_sizes(self):
        for _, text, _ in self.each():
            self.assertRegex(text, r"\A[ -~\n]*\Z")
            lines = text.split("\n")
            self.assertLess(len(lines), 400)
            self.assertLessEqual(max(len(line) for line in lines), 120)

    def test_sizes_of_functions(self):
        for _, _, tree in self.each():
            for node in ast.walk(tree):
                if isinstance(node, ast.FunctionDef):
                    self.assertLessEqual(node.end_lineno - node.lineno + 1, 40, node.name)

    def test_statements(self):
        for _, _, tree in self.each():
            for node in ast.walk(tree):
                if isinstance(node, ast.stmt):
                    self.assertIsInstance(node, STATEMENTS)
                if isinstance(node, ast.ClassDef):
                    self.assertEqual(node.decorator_list, [])
                if isinstance(node, ast.FunctionDef):
                    self.assertIn([ast.unparse(one) for one in node.decorator_list], ([], ["property"]))
                    yields = [one for one in ast.walk(node) if isinstance(one, (ast.Yield, ast.YieldFrom))]
                    self.assertEqual(bool(yields), node.name in YIELDING)
                if isinstance(node, ast.Try):
                    (handler,) = node.handlers
                    self.assertIn(handler.type.id, CAUGHT)
                    self.assertEqual((handler.name, node.orelse, node.finalbody), (None, [], []))
                self.assertNotIsInstance(node, (ast.Div, ast.GeneratorExp, ast.Await))
                if isinstance(node, ast.Call):
                    # What a star stands before in a call is a plain name.
                    stars = [one for one in node.args if isinstance(one, ast.Starred)]
                    self.assertEqual([type(one.value) for one in stars], [ast.Name] * len(stars))
                if isinstance(node, ast.Constant):
                    self.assertNotIsInstance(node.value, (float, complex, bytes))
                    self.assertNotIn("%", str(node.value))

    def test_imports(self):
        graph = {}
        for path, _, tree in self.each():
            graph[module_name(path)] = set()
            for node in imports_of(tree):
                self.assertIsInstance(node, ast.ImportFrom)
                self.assertEqual(node.level, 0)
                self.assertTrue((PACKAGE.parent / (node.module.replace(".", "/") + ".py")).is_file(), node.module)
                graph[module_name(path)].add(node.module)
                defined = ast.parse((PACKAGE.parent / (node.module.replace(".", "/") + ".py")).read_text())
                for alias in node.names:
                    self.assertIsNone(alias.asname)
                    self.assertIn(alias.name, self.names_of(defined))
        done = set()
        while len(done) < len(graph):
            ready = {name for name in graph if name not in done and graph[name] <= done}
            self.assertTrue(ready, "files import from each other")
            done |= ready

    def names_of(self, tree):
        """The names that a module binds by itself, each of them once."""
        names = []
        for node in tree.body:
            if isinstance(node, (ast.FunctionDef, ast.ClassDef)):
                names.append(node.name)
            if isinstance(node, ast.Assign):
                names.extend(target.id for target in node.targets)
        self.assertEqual(len(names), len(set(names)))
        return names

    def test_names(self):
        for _, text, tree in self.each():
            names = [node for node in ast.walk(tree) if isinstance(node, ast.Name)]
            read = {node.id for node in names if isinstance(node.ctx, ast.Load)}
            local = {node.id for node in names if not isinstance(node.ctx, ast.Load)}
            local |= {node.arg for node in ast.walk(tree) if isinstance(node, ast.arg)}
            local |= {node.name for node in ast.walk(tree) if isinstance(node, ast.FunctionDef)}
            for name in local:
                self.assertNotIn(name, dir(builtins))
                self.assertNotIn(name, BARRED.split())
            imported = {alias.name for node in imports_of(tree) for alias in node.names}
            self.assertEqual(imported & local, set())
            self.assertNotIn("_", read)
            self.assertEqual(imported - read, set(), "imported and not used")
            known = read - local - imported - set(self.names_of(tree)) - set(BUILTINS.split())
            self.assertEqual(known, set())
            code = re.sub(r'(?s)""".*?"""|#[^\n]*', "", text)
            for word in BARRED.split():
                self.assertNotRegex(code, rf"\b{word}\b")

    def test_attributes_and_methods(self):
        attributes, methods = set(), set()
        for _, _, tree in self.each():
            for node in ast.walk(tree):
                if isinstance(node, ast.ClassDef):
                    methods |= {part.name for part in node.body if isinstance(part, ast.FunctionDef)}
                if isinstance(node, ast.Attribute) and isinstance(node.ctx, ast.Store):
                    attributes.add(node.attr)
        # A name that is both would be allowed in different classes, but it misleads.
        self.assertEqual(attributes & methods, set())
        self.assertEqual((attributes | methods) & set(BARRED_ATTRIBUTES.split()), set())

    def test_iterated_at_once(self):
        """What zip, enumerate, reversed and the views of dicts give is iterated on the spot."""
        for _, _, tree in self.each():
            parents = {kid: node for node in ast.walk(tree) for kid in ast.iter_child_nodes(node)}
            for node in ast.walk(tree):
                if not isinstance(node, ast.Call):
                    continue
                name = node.func.id if isinstance(node.func, ast.Name) else getattr(node.func, "attr", "")
                around = parents[node]
                if name in ("zip", "enumerate", "reversed", "items", "keys", "values"):
                    takers = ("list", "tuple", "dict", "sorted", "sum", "any", "all", "enumerate", "zip")
                    self.assertTrue(
                        isinstance(around, (ast.For, ast.comprehension)) and around.iter is node
                        or isinstance(around, ast.Call) and getattr(around.func, "id", "") in takers
                        and around.args[0] is node, ast.unparse(around))
                if name == "range" and not isinstance(around, (ast.For, ast.comprehension, ast.Assign)):
                    self.assertIn(around.func.id, ("list", "reversed", "tuple"))
                if name == "set":
                    sorts = isinstance(around, ast.BinOp) and parents[around].func.id == "sorted"
                    self.assertTrue(sorts or around.func.id in ("len", "sorted"))

    def test_methods_that_are_called(self):
        own, called = set(), set()
        for _, _, tree in self.each():
            for node in ast.walk(tree):
                if isinstance(node, ast.ClassDef):
                    own |= {part.name for part in node.body if isinstance(part, ast.FunctionDef)}
                if isinstance(node, ast.Call) and isinstance(node.func, ast.Attribute):
                    called.add(node.func.attr)
        self.assertEqual(called - own - set(METHODS.split()), set())

    def test_module_level(self):
        for _, _, tree in self.each():
            for node in tree.body:
                self.assertIsInstance(node, (ast.Expr, ast.ImportFrom, ast.FunctionDef, ast.ClassDef, ast.Assign))
                if isinstance(node, ast.Expr):
                    self.assertIsInstance(node.value.value, str)

    def test_public_functions_and_classes_are_described(self):
        for _, _, tree in self.each():
            for node in ast.walk(tree):
                if isinstance(node, (ast.FunctionDef, ast.ClassDef)) and not node.name.startswith("_"):
                    self.assertIsNotNone(ast.get_docstring(node), node.name)


class InterfaceTest(unittest.TestCase):
    """Each function and class of the interface is defined in the file under which it is listed."""

    PARAMETERS = {
        "words": {
            "split_words": ["text"], "read_numeral": ["word"], "read_program": ["text"], "write_program": ["tree"],
            "same_tree": ["first", "second"],
        },
        "kinds": {
            "with_kinds": ["tree"], "kind_size": ["kind"], "is_kind": ["kind", "count"],
            "field_kinds": ["datas", "number"],
        },
        "plain": {"run": ["program", "arguments", "*fuel"]},
        "flat": {"flatten": ["tree"], "check": ["program"], "run": ["program", "arguments", "*fuel"]},
        "regions": {
            "check": ["program"], "erase": ["program"], "captured": ["block"], "run": ["program", "arguments", "*fuel"],
        },
        "place": {
            "find": ["program"], "coarse": ["program"], "build": ["program"],
            "keeper": ["program", "place", "region"],
        },
        "memory": {"replay": ["deeds"]},
        "machine": {
            "translate": ["program"], "check_code": ["code"], "run": ["code", "arguments", "*fuel"],
        },
        "bounds": {
            "accept": ["program", "certificates"], "bound": ["program", "certificates", "arguments"], "find": ["program"],
        },
        "system": {
            "build": ["text"], "run_text": ["text", "arguments", "*fuel"],
            "report": ["text", "certificates", "arguments", "*fuel"],
        },
    }
    # The methods and properties that are listed for a class stand in the class itself.
    METHODS = {
        "memory": {
            "Store": {
                "__init__": [], "begin": [], "cell": ["region", "words"], "end": ["region"], "read": ["address"],
                "write": ["address", "word"], "owner": ["address"], "current": [], "held": [], "pages": [], "waiting": [],
                "__len__": [], "__contains__": ["address"], "__iter__": [],
            },
            "Watch": {"__init__": ["store"], "__enter__": [], "__exit__": ["kind", "value", "trace"]},
        },
        "bounds": {
            "Linear": {
                "__init__": ["constant", "coefficients"], "__add__": ["other"], "at_most": ["other"], "value": ["sizes"],
            },
        },
        "system": {
            "Session": {
                "__init__": [], "load": ["text"], "answer": ["line"], "loaded": [], "__len__": [], "__iter__": [],
            },
        },
    }
    PROPERTIES = {"held", "pages", "waiting", "loaded"}

    def test_functions(self):
        for module, functions in self.PARAMETERS.items():
            tree = ast.parse((PACKAGE / f"{module}.py").read_text())
            defined = [node for node in tree.body if isinstance(node, ast.FunctionDef)]
            found = {
                node.name: [arg.arg for arg in node.args.args] + ["*" + arg.arg for arg in node.args.kwonlyargs]
                for node in defined
            }
            for name, parameters in functions.items():
                self.assertEqual(found.get(name), parameters)

    def test_methods(self):
        for module, classes in self.METHODS.items():
            tree = ast.parse((PACKAGE / f"{module}.py").read_text())
            defined = {node.name: node for node in tree.body if isinstance(node, ast.ClassDef)}
            for name, methods in classes.items():
                inside = {node.name: node for node in defined[name].body if isinstance(node, ast.FunctionDef)}
                for method, parameters in methods.items():
                    self.assertEqual([arg.arg for arg in inside[method].args.args], ["self", *parameters])
                    self.assertEqual(bool(inside[method].decorator_list), method in self.PROPERTIES)

    def test_greatest_fuel_by_default(self):
        for module, functions in self.PARAMETERS.items():
            for node in ast.parse((PACKAGE / f"{module}.py").read_text()).body:
                if isinstance(node, ast.FunctionDef) and "*fuel" in functions.get(node.name, ()):
                    self.assertEqual([ast.unparse(value) for value in node.args.kw_defaults], ["MAX_FUEL"])


if __name__ == "__main__":
    unittest.main()
