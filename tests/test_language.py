"""Those rules of the language of the package that are easily seen."""

import ast
import builtins
import io
import pathlib
import tokenize
import unittest

PACKAGE = pathlib.Path(__file__).resolve().parent.parent / "kithbase"
FILES = sorted(PACKAGE.rglob("*.py"))
STATEMENTS = (ast.Import, ast.Global, ast.AsyncFunctionDef, ast.AsyncFor, ast.AsyncWith, ast.Await, ast.Yield,
              ast.YieldFrom, ast.With, ast.Set, ast.SetComp, ast.AnnAssign, ast.Match)
LIBRARY = ("heapq", "math", "itertools", "collections")
BUILTINS = set("""len range enumerate zip min max sum abs sorted reversed int str bool list tuple dict isinstance ord
    repr any all divmod pow""".split())
# Examples that are run leave an underscore among the builtins, which is no name of the language.
BUILTIN_NAMES = set(dir(builtins)) - {"_"}
METHODS = set("""append clear copy count endswith extend find get index insert isalnum isalpha isdigit islower isspace
    isupper items join keys ljust lower lstrip partition pop remove replace reverse rfind rjust rpartition rsplit rstrip
    setdefault split splitlines startswith strip update upper values zfill bit_length""".split())
CHANGING = set("append clear extend insert pop remove reverse setdefault update".split())
NO_ATTRIBUTES = set("""items keys values pop update append clear extend insert remove reverse setdefault sort args
    encode decode hex fromhex format""".split())
NO_NAMES = set("""register mro elements open input law version_info with_traceback add_note attrgetter breakpoint
    builtins compile copyright credits delattr dir eval exec exit gc getattr globals hasattr help id importlib license
    locals methodcaller os quit setattr super type vars sys""".split())
NO_WORDS = """type typing typing_extensions enum Enum IntEnum StrEnum Flag IntFlag Generic Protocol ABC ABCMeta
    namedtuple NamedTuple TypedDict TYPE_CHECKING abstractmethod dataclass overload contextmanager""".split()
AT_ONCE = ("zip", "enumerate", "reversed", "map")
TAKERS = ("list", "tuple", "dict", "sorted", "sum", "any", "all", "enumerate", "zip", "min", "max")
FUNCTIONS = (ast.FunctionDef, ast.Lambda)
TREES = {path: ast.parse(path.read_text(encoding="ascii")) for path in FILES}


def nodes(path, *kinds):
    return [node for node in ast.walk(TREES[path]) if isinstance(node, kinds)]


def parents(path):
    return {child: node for node in ast.walk(TREES[path]) for child in ast.iter_child_nodes(node)}


def parameters(function):
    told = function.args
    found = told.posonlyargs + told.args + told.kwonlyargs + [told.vararg, told.kwarg]
    return [parameter.arg for parameter in found if parameter is not None]


def local_names(function):
    """Returns the names of the parameters, variables and nested functions in a function."""
    names = set(parameters(function))
    for node in ast.walk(function):
        if isinstance(node, ast.Name) and isinstance(node.ctx, ast.Store):
            names.add(node.id)
        if isinstance(node, FUNCTIONS) and node is not function:
            names.update(parameters(node))
            if isinstance(node, ast.FunctionDef):
                names.add(node.name)
    return names


def defined(path):
    """Returns the names that are bound at the module level of a file, without its imports."""
    names = []
    for node in TREES[path].body:
        if isinstance(node, (ast.FunctionDef, ast.ClassDef)):
            names.append(node.name)
        if isinstance(node, ast.Assign):
            names.extend([target.id for target in node.targets])
    return names


def imported(path):
    return [name.name for node in nodes(path, ast.ImportFrom) for name in node.names]


def docstrings(path):
    owners = nodes(path, ast.Module, ast.ClassDef, ast.FunctionDef)
    return {node.body[0].value for node in owners if ast.get_docstring(node) is not None}


OWN = {name.name for path in FILES for name in nodes(path, ast.FunctionDef, ast.ClassDef)}


class Files(unittest.TestCase):
    def test_the_folder_contains_nothing_else(self):
        for path in PACKAGE.rglob("*"):
            if path.name != "__pycache__" and path.parent.name != "__pycache__":
                self.assertEqual(path.suffix, ".py", path)
                self.assertEqual(path.name, path.name.lower())

    def test_sizes_and_characters(self):
        for path in FILES:
            lines = path.read_text(encoding="ascii").split("\n")
            self.assertLessEqual(len(lines), 399, path)
            self.assertLessEqual(max(len(line) for line in lines), 120, path)
            self.assertNotIn("\t", "".join(lines), path)

    def test_functions_are_short(self):
        for path in FILES:
            for node in nodes(path, ast.FunctionDef):
                self.assertLessEqual(node.end_lineno - node.lineno + 1, 40, (path, node.name))

    def test_every_function_says_what_it_does(self):
        for path in FILES:
            self.assertIsNotNone(ast.get_docstring(TREES[path]), path)
            for node in nodes(path, ast.FunctionDef, ast.ClassDef):
                if node.name != "__init__":
                    self.assertIsNotNone(ast.get_docstring(node), (path, node.name))

    def test_statements(self):
        for path in FILES:
            self.assertEqual(nodes(path, *STATEMENTS), [], path)
            for node in nodes(path, ast.FunctionDef, ast.ClassDef):
                self.assertEqual(node.decorator_list, [], path)

    def test_only_own_errors_are_caught(self):
        for path in FILES:
            own = defined(PACKAGE / "errors.py")
            for node in nodes(path, ast.Try):
                self.assertEqual((node.orelse, node.finalbody), ([], []), path)
                for handler in node.handlers:
                    self.assertIsNone(handler.name, path)
                    named = handler.type.elts if isinstance(handler.type, ast.Tuple) else [handler.type]
                    for error in named:
                        self.assertIn(error.id, own, path)

    def test_errors_are_made_on_the_spot(self):
        for path in FILES:
            own = defined(PACKAGE / "errors.py")
            for node in nodes(path, ast.Raise):
                self.assertIsInstance(node.exc, ast.Call, path)
                self.assertIn(node.exc.func.id, own, path)
                self.assertIsNone(node.cause, path)

    def test_the_module_level_has_no_code(self):
        allowed = (ast.Expr, ast.ImportFrom, ast.FunctionDef, ast.ClassDef, ast.Assign)
        for path in FILES:
            for place, node in enumerate(TREES[path].body):
                self.assertIsInstance(node, allowed, path)
                if isinstance(node, ast.Expr):
                    self.assertTrue(place == 0 and isinstance(node.value, ast.Constant), path)


    def test_what_the_module_level_names(self):
        for path in FILES:
            functions = set()
            for node in TREES[path].body:
                if isinstance(node, ast.FunctionDef):
                    functions.add(node.name)
                if isinstance(node, ast.Assign):
                    self.assertEqual(len(node.targets), 1, (path, node.lineno))
                    for part in ast.walk(node.value):
                        self.assertNotIsInstance(part, (ast.Call, ast.Attribute, ast.Subscript), (path, node.lineno))
                        self.assertTrue(not isinstance(part, ast.Name) or part.id in functions, (path, node.lineno))


class Imports(unittest.TestCase):
    def test_each_names_the_file_that_defines_the_name(self):
        for path in FILES:
            for node in nodes(path, ast.ImportFrom):
                if node.module not in LIBRARY:
                    package, module = node.module.split(".")
                    self.assertEqual((package, node.level), ("kithbase", 0), path)
                    for name in node.names:
                        self.assertIn(name.name, defined(PACKAGE / (module + ".py")), path)
                        self.assertIsNone(name.asname, path)

    def test_every_import_is_used(self):
        for path in FILES:
            used = {node.id for node in nodes(path, ast.Name)}
            for name in imported(path):
                self.assertIn(name, used, path)

    def test_no_two_files_import_from_each_other(self):
        links = {path.stem: {node.module.split(".")[-1] for node in nodes(path, ast.ImportFrom)} for path in FILES}
        while links:
            free = [name for name in links if not any(other in links for other in links[name])]
            self.assertTrue(free, links)
            for name in free:
                del links[name]


class Names(unittest.TestCase):
    def test_names_are_bound_once(self):
        for path in FILES:
            names = defined(path) + imported(path)
            self.assertEqual(len(names), len(set(names)), path)

    def test_local_names(self):
        for path in FILES:
            classes = [node.name for node in nodes(path, ast.ClassDef)]
            for function in nodes(path, *FUNCTIONS):
                for name in local_names(function):
                    self.assertNotIn(name, classes + imported(path), path)
                    self.assertFalse(name in BUILTIN_NAMES, (path, name))
                    self.assertNotIn(name, NO_NAMES, path)
                    self.assertNotIn("__", name, path)

    def test_names_at_module_level_and_of_methods(self):
        for path in FILES:
            for name in defined(path):
                self.assertFalse(name in BUILTIN_NAMES, (path, name))
                self.assertNotIn(name, NO_NAMES, path)
        for name in OWN:
            self.assertNotIn(name, NO_NAMES)
            self.assertTrue(name == "__init__" or "__" not in name, name)

    def test_attributes(self):
        stored = {node.attr for path in FILES for node in nodes(path, ast.Attribute) if isinstance(node.ctx, ast.Store)}
        for name in stored:
            self.assertNotIn(name, NO_ATTRIBUTES | NO_NAMES)
        for path in FILES:
            above = parents(path)
            for node in nodes(path, ast.Attribute):
                if not (isinstance(above[node], ast.Call) and above[node].func is node):
                    self.assertIn(node.attr, stored, path)

    def test_no_name_is_a_method_and_an_attribute_of_one_class(self):
        for path in FILES:
            for owner in nodes(path, ast.ClassDef):
                methods = {node.name for node in owner.body if isinstance(node, ast.FunctionDef)}
                for node in ast.walk(owner):
                    if isinstance(node, ast.Attribute) and isinstance(node.ctx, ast.Store):
                        self.assertNotIn(node.attr, methods, path)

    def test_nothing_is_read_off_a_class(self):
        classes = {node.name for path in FILES for node in nodes(path, ast.ClassDef)}
        for path in FILES:
            for node in nodes(path, ast.Attribute):
                self.assertFalse(isinstance(node.value, ast.Name) and node.value.id in classes, (path, node.lineno))

    def test_words_that_do_not_occur(self):
        for path in FILES:
            told = docstrings(path)
            names = [node.id for node in nodes(path, ast.Name)] + [node.attr for node in nodes(path, ast.Attribute)]
            names.extend([node.value for node in nodes(path, ast.Constant)
                          if isinstance(node.value, str) and node not in told])
            for name in names:
                for word in name.replace(".", " ").split():
                    self.assertNotIn(word, NO_WORDS, path)
            self.assertNotIn("_wall", path.read_text(), path)


class Calls(unittest.TestCase):
    def test_what_is_called(self):
        for path in FILES:
            above = parents(path)
            for node in nodes(path, ast.Call):
                if isinstance(node.func, ast.Attribute):
                    self.assertIn(node.func.attr, METHODS | OWN, path)
                elif isinstance(node.func, ast.Name):
                    around = node
                    names = set(BUILTINS | OWN)
                    while around in above:
                        around = above[around]
                        if isinstance(around, FUNCTIONS):
                            names |= local_names(around)
                    self.assertIn(node.func.id, names, path)

    def test_builtins_are_called(self):
        for path in FILES:
            above = parents(path)
            for node in nodes(path, ast.Name):
                if node.id in BUILTIN_NAMES:
                    parent = above[node]
                    called = isinstance(parent, ast.Call) and (parent.func is node or parent.func.id == "isinstance")
                    kinds = isinstance(parent, ast.Tuple) and above[parent].func.id == "isinstance"
                    bases = isinstance(parent, ast.ClassDef)
                    key = isinstance(parent, ast.keyword) and parent.arg == "key" and node.id in ("len", "abs", "str")
                    self.assertTrue(called or kinds or bases or key, (path, node.id, node.lineno))

    def test_keywords(self):
        allowed = {"sorted": ("key", "reverse"), "min": ("key", "default"), "max": ("key", "default"),
                   "sum": ("start",), "enumerate": ("start",), "zip": ("strict",)}
        for path in FILES:
            for node in nodes(path, ast.Call):
                name = node.func.id if isinstance(node.func, ast.Name) else None
                for keyword in node.keywords:
                    self.assertIn(keyword.arg, allowed.get(name, ()), path)
                    if keyword.arg in ("reverse", "strict"):
                        self.assertIsInstance(keyword.value, ast.Constant, path)

    def test_iterated_at_once(self):
        for path in FILES:
            above = parents(path)
            for node in nodes(path, ast.Call):
                name = node.func.id if isinstance(node.func, ast.Name) else node.func.attr
                if name in AT_ONCE or (name in ("items", "keys", "values") and isinstance(node.func, ast.Attribute)):
                    parent = above[node]
                    looped = isinstance(parent, (ast.For, ast.comprehension)) and parent.iter is node
                    taken = isinstance(parent, ast.Call) and isinstance(parent.func, ast.Name)
                    taken = taken and parent.func.id in TAKERS and parent.args[0] is node
                    self.assertTrue(looped or taken, (path, node.lineno))

    def test_generator_expressions(self):
        for path in FILES:
            above = parents(path)
            for node in nodes(path, ast.GeneratorExp):
                self.assertIsInstance(above[node], ast.Call, path)
                takers = ("list", "tuple", "dict", "sorted", "sum", "min", "max", "any", "all")
                self.assertIn(above[node].func.id, takers)
                self.assertEqual(len(above[node].args) + len(above[node].keywords), 1, path)

    def test_what_a_loop_goes_over_is_not_changed(self):
        for path in FILES:
            for loop in nodes(path, ast.For):
                kinds = (ast.Name, ast.Attribute)
                over = {ast.unparse(node) for node in ast.walk(loop.iter) if isinstance(node, kinds)}
                for node in [inner for statement in loop.body for inner in ast.walk(statement)]:
                    changed = None
                    method = node.func if isinstance(node, ast.Call) else None
                    if isinstance(method, ast.Attribute) and method.attr in CHANGING:
                        changed = method.value
                    if isinstance(node, ast.Subscript) and not isinstance(node.ctx, ast.Load):
                        changed = node.value
                    if changed is not None:
                        self.assertNotIn(ast.unparse(changed), over, (path, node.lineno))

    def test_lambdas(self):
        for path in FILES:
            seen = set()
            for node in nodes(path, ast.Lambda):
                place = (node.lineno, tuple(parameters(node)))
                self.assertNotIn(place, seen, path)
                seen.add(place)

    def test_no_function_changes_what_it_reads_from_around(self):
        for path in FILES:
            for function in nodes(path, ast.FunctionDef):
                for inner in ast.walk(function):
                    if isinstance(inner, ast.FunctionDef) and inner is not function:
                        outer = set(parameters(function)) | {
                            node.id for statement in function.body for node in ast.walk(statement)
                            if isinstance(node, ast.Name) and isinstance(node.ctx, ast.Store)
                            and not any(node in list(ast.walk(other)) for other in ast.walk(function)
                                        if isinstance(other, ast.FunctionDef) and other is not function)}
                        self.assertFalse(outer & local_names(inner), (path, inner.name, outer & local_names(inner)))


class Values(unittest.TestCase):
    def test_operators(self):
        for path in FILES:
            for node in nodes(path, ast.BinOp, ast.AugAssign):
                self.assertNotIsInstance(node.op, (ast.Div, ast.MatMult), path)
            for node in nodes(path, ast.BinOp):
                if isinstance(node.op, ast.Pow):
                    self.assertIsInstance(node.right, ast.Constant, path)
                    self.assertLessEqual(node.right.value, 64, path)

    def test_is(self):
        for path in FILES:
            for node in nodes(path, ast.Compare):
                if any(isinstance(operator, (ast.Is, ast.IsNot)) for operator in node.ops):
                    self.assertEqual(len(node.ops), 1, path)
                    self.assertIsInstance(node.comparators[0], ast.Constant, path)
                    self.assertIn(node.comparators[0].value, (None, True, False), path)

    def test_constants(self):
        for path in FILES:
            for node in nodes(path, ast.Constant):
                self.assertNotIsInstance(node.value, (float, bytes, complex), path)
                if isinstance(node.value, str):
                    self.assertNotIn(chr(37), node.value, path)
                    self.assertFalse(node.value.endswith(("._", ".__")), path)
                    self.assertFalse(node.value.startswith("__") and node.value.endswith("__"), path)

    def test_escapes(self):
        for path in FILES:
            for token in tokenize.generate_tokens(io.StringIO(path.read_text()).readline):
                if token.type == tokenize.STRING:
                    rest = token.string.replace("\\\\", "")
                    for place, character in enumerate(rest):
                        if character == "\\":
                            self.assertIn(rest[place + 1], "nt'\"", (path, token.string))

    def test_tables_at_module_level_are_only_read(self):
        for path in FILES:
            tables = {node.targets[0].id for node in TREES[path].body
                      if isinstance(node, ast.Assign) and isinstance(node.value, (ast.Dict, ast.List))}
            above = parents(path)
            for node in nodes(path, ast.Name):
                if node.id in tables and isinstance(node.ctx, ast.Load):
                    parent = above[node]
                    read = isinstance(parent, ast.Subscript) and parent.value is node
                    read = read and isinstance(parent.ctx, ast.Load)
                    method = isinstance(parent, ast.Attribute) and parent.attr in ("get", "items", "keys", "values")
                    tested = isinstance(parent, ast.Compare) or (isinstance(parent, ast.For) and parent.iter is node)
                    copied = isinstance(parent, ast.Call) and parent.func.id in ("list", "dict", "len", "sorted")
                    self.assertTrue(read or method or tested or copied, (path, node.lineno))


if __name__ == "__main__":
    unittest.main()
