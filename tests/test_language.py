"""Rules of ../shared/LANGUAGE.md that can be seen in the code, file by file."""

import ast
import builtins
import pathlib
import re
import tokenize
import unittest

PACKAGE = pathlib.Path(__file__).resolve().parent.parent / "bestpapers"
LIBRARY = {
    "heapq": "heappush heappop heapify heapreplace heappushpop",
    "math": "gcd lcm isqrt comb perm factorial",
    "itertools": "product combinations permutations chain accumulate pairwise islice zip_longest",
    "collections": "defaultdict",
    "__future__": "annotations",
}
BUILTINS = set(
    "len range enumerate zip min max sum abs sorted reversed int str bool list tuple dict set "
    "frozenset isinstance ord repr any all divmod pow getattr hasattr setattr iter next map "
    "Exception ValueError TypeError KeyError IndexError LookupError ZeroDivisionError "
    "ArithmeticError OverflowError RuntimeError NotImplementedError AttributeError "
    "StopIteration NotImplemented super property staticmethod classmethod".split()
)
METHODS = set(
    "append clear copy count endswith extend find get index insert isalnum isalpha isdigit "
    "islower isspace isupper items join keys ljust lower lstrip partition pop remove replace "
    "reverse rfind rjust rpartition rsplit rstrip setdefault split splitlines startswith strip "
    "update upper values zfill bit_length title capitalize swapcase casefold center expandtabs "
    "removeprefix removesuffix rindex isascii isdecimal isnumeric istitle isidentifier "
    "isprintable translate from_iterable add discard setter".split()
)
DOUBLE = set(
    "init eq repr str len enter exit call iter lt le gt ge ne add sub mul floordiv mod pow and "
    "or xor lshift rshift radd rsub rmul rfloordiv rmod rand ror rxor rlshift rrshift iadd isub "
    "imul ifloordiv imod ipow iand ior ixor ilshift irshift neg pos invert abs bool contains "
    "getitem setitem".split()
)
BARRED_NAMES = set(
    "register mro elements open input law version_info with_traceback add_note attrgetter "
    "breakpoint builtins compile copyright credits delattr dir eval exec exit gc globals help id "
    "importlib license locals methodcaller os quit type vars sys _cold _outside _record "
    "_tuplegetter _written_out _member_names".split()
)
BARRED_WORDS = re.compile(
    r"\b(type|typing|typing_extensions|enum|Enum|IntEnum|StrEnum|Flag|IntFlag|Generic|Protocol|"
    r"ABC|ABCMeta|namedtuple|NamedTuple|TypedDict|TYPE_CHECKING|abstractmethod)\b"
    r"|dataclass|overload|contextmanager"
)
# These stand nowhere, not even in comments.
BARRED_TEXTS = re.compile(r"\(type\)|Meta|metaclass=|\b_wall\b|\b_WallAttr\b")
BARRED_ATTRIBUTES = set(
    "items keys values pop update append clear extend insert remove reverse setdefault sort args "
    "encode decode hex fromhex format format_map mro as_integer_ratio bit_count conjugate "
    "from_bytes is_integer to_bytes".split()
)
BARRED_NODES = (
    ast.Global, ast.AsyncFunctionDef, ast.AsyncFor, ast.AsyncWith, ast.Await, ast.Div,
    ast.MatMult, ast.Import,
)
COLLECTING = ("any", "all", "min", "max", "sum", "sorted")


def source_files():
    return sorted(PACKAGE.rglob("*.py"))


def parsed(path):
    return ast.parse(path.read_text(encoding="utf-8"))


def functions_of(tree):
    return [node for node in ast.walk(tree) if isinstance(node, ast.FunctionDef)]


def is_plain(node):
    try:
        ast.literal_eval(node)
    except ValueError:
        return isinstance(node, (ast.Tuple, ast.List, ast.Dict))
    return True


def is_docstring(node):
    return isinstance(node, ast.Expr) and isinstance(node.value, ast.Constant)


def names_bound(tree):
    """Yield every name that a file binds, with its line."""
    for node in ast.walk(tree):
        if isinstance(node, ast.Name) and isinstance(node.ctx, ast.Store):
            yield node.id, node.lineno
        elif isinstance(node, ast.arg):
            yield node.arg, node.lineno
        elif isinstance(node, (ast.FunctionDef, ast.ClassDef)):
            yield node.name, node.lineno


def imported_names(tree):
    imports = [node for node in tree.body if isinstance(node, ast.ImportFrom)]
    return [alias.name for node in imports for alias in node.names]


def module_names(tree):
    """Every name that is bound at module level, as often as it is bound."""
    names = imported_names(tree)
    for node in tree.body:
        if isinstance(node, (ast.FunctionDef, ast.ClassDef)):
            names.append(node.name)
        elif isinstance(node, ast.Assign):
            names.extend(target.id for target in node.targets)
    return names


def methods_of(tree):
    return [
        part
        for node in tree.body if isinstance(node, ast.ClassDef)
        for part in node.body if isinstance(part, ast.FunctionDef)
    ]


def properties_with_setters():
    """All names of properties that may be assigned."""
    return {
        mark.value.id
        for path in source_files()
        for method in methods_of(parsed(path))
        for mark in method.decorator_list if isinstance(mark, ast.Attribute)
    }


def assigned_attributes():
    """All names of attributes, not of properties, that the package assigns."""
    return {
        node.attr
        for path in source_files()
        for node in ast.walk(parsed(path))
        if isinstance(node, ast.Attribute) and isinstance(node.ctx, ast.Store)
    } - properties_with_setters()


def class_names():
    """All names of methods, properties and class values of the package."""
    return {
        name
        for path in source_files()
        for node in parsed(path).body if isinstance(node, ast.ClassDef)
        for name in module_names(node)
    }


class Language(unittest.TestCase):
    def setUp(self):
        self.faults = []

    def tearDown(self):
        self.assertEqual(self.faults, [])

    def refuse(self, rule, path, line, what=""):
        self.faults.append((rule, path.name, line, what))

    def test_files(self):
        paths = [path for path in PACKAGE.rglob("*") if "__pycache__" not in path.parts]
        if len(paths) > 100:
            self.refuse("L14", PACKAGE, 0, len(paths))
        for path in paths:
            plain = re.fullmatch(r"[a-z][a-z0-9_]*\.py|__init__\.py|__main__\.py", path.name)
            if not plain or path.stem in dir(builtins) and path.stem != "__init__":
                self.refuse("L1", path, 0)

    def test_lines(self):
        for path in source_files():
            text = path.read_text(encoding="utf-8")
            lines = text.split("\n")
            if len(lines) > 400:
                self.refuse("L10", path, len(lines))
            for at, line in enumerate(lines, 1):
                if len(line) > 120 or not re.fullmatch(r"[ -~]*", line):
                    self.refuse("L10 or L14", path, at)
                if BARRED_TEXTS.search(line):
                    self.refuse("L12 or L17", path, at)

    def test_functions_are_short(self):
        for path in source_files():
            for function in functions_of(parsed(path)):
                if function.end_lineno - function.lineno >= 40:
                    self.refuse("L10", path, function.lineno, function.name)

    def test_imports(self):
        edges = {}
        for path in source_files():
            tree = parsed(path)
            edges[path.stem] = []
            for node in ast.walk(tree):
                if not isinstance(node, ast.ImportFrom):
                    continue
                names = [alias.name for alias in node.names]
                if node.module.startswith("bestpapers."):
                    edges[path.stem].append(node.module.split(".")[1])
                    bad = node.level or "*" in names
                else:
                    known = LIBRARY.get(node.module, "").split()
                    bad = any(alias.asname or alias.name not in known for alias in node.names)
                if bad or node not in tree.body:
                    self.refuse("L2", path, node.lineno)
        while edges:
            free = [stem for stem, needed in edges.items() if not set(needed) & set(edges)]
            if not free:
                self.refuse("L16", PACKAGE, 0, sorted(edges))
                break
            for stem in free:
                del edges[stem]

    def test_imported_names_are_defined_there(self):
        defined = {}
        for path in source_files():
            tree = parsed(path)
            names = set(module_names(tree)) - set(imported_names(tree))
            defined["bestpapers." + path.stem] = names
        for path in source_files():
            for node in parsed(path).body:
                if isinstance(node, ast.ImportFrom) and node.module in defined:
                    for alias in node.names:
                        if alias.name not in defined[node.module]:
                            self.refuse("L16", path, node.lineno, alias.name)

    def test_module_level(self):
        for path in source_files():
            for node in parsed(path).body:
                if isinstance(node, ast.Assign):
                    fine = len(node.targets) == 1 and is_plain(node.value)
                    fine = fine and isinstance(node.targets[0], ast.Name)
                else:
                    fine = is_docstring(node) or isinstance(
                        node, (ast.ImportFrom, ast.FunctionDef, ast.ClassDef))
                if not fine:
                    self.refuse("L3", path, node.lineno)

    def test_one_binding_at_module_level(self):
        for path in source_files():
            tree = parsed(path)
            names = module_names(tree)
            if len(names) != len(set(names)):
                self.refuse("L15", path, 0)
            classes = {node.name for node in tree.body if isinstance(node, ast.ClassDef)}
            taken = classes | set(imported_names(tree))
            for function in functions_of(tree):
                local = {name for name, _ in names_bound(function)} - {function.name}
                if local & taken:
                    self.refuse("L15", path, function.lineno, sorted(local & taken))

    def test_nodes(self):
        for path in source_files():
            for node in ast.walk(parsed(path)):
                number = isinstance(node, ast.Constant) and isinstance(node.value, (float, complex))
                if isinstance(node, BARRED_NODES) or number:
                    self.refuse("L6 or L7", path, getattr(node, "lineno", 0), node)
                if isinstance(node, ast.AugAssign) and not isinstance(node.value, ast.Constant):
                    self.refuse("L5 Operators", path, node.lineno)

    def test_decorators(self):
        for path in source_files():
            tree = parsed(path)
            methods = methods_of(tree)
            for function in functions_of(tree):
                for mark in function.decorator_list:
                    known = ast.unparse(mark) in ("property", "staticmethod", "classmethod")
                    setter = isinstance(mark, ast.Attribute) and mark.attr == "setter"
                    if function not in methods or not (known or setter):
                        self.refuse("L4", path, function.lineno)

    def test_names(self):
        for path in source_files():
            tree = parsed(path)
            methods = {id(method) for method in methods_of(tree)}
            inside = {method.name for method in methods_of(tree)}
            for name, line in names_bound(tree):
                double = re.fullmatch(r"__([a-z]+)__", name)
                if double and double[1] in DOUBLE and name in inside:
                    continue
                if not re.fullmatch(r"_?[A-Za-z][A-Za-z0-9_]*|_", name) or name in BARRED_NAMES:
                    self.refuse("L12 or L17", path, line, name)
                if hasattr(builtins, name) and name not in inside:
                    self.refuse("L15", path, line, name)
            for function in functions_of(tree):
                if function.name.startswith("__") and id(function) not in methods:
                    self.refuse("L28", path, function.lineno)

    def test_builtins_that_are_used(self):
        for path in source_files():
            for node in ast.walk(parsed(path)):
                if isinstance(node, ast.Name) and isinstance(node.ctx, ast.Load):
                    if hasattr(builtins, node.id) and node.id not in BUILTINS:
                        self.refuse("L8", path, node.lineno, node.id)

    def test_attributes(self):
        for name in assigned_attributes() & BARRED_ATTRIBUTES:
            self.refuse("L26", PACKAGE, 0, name)
        own = assigned_attributes() | class_names()
        for path in source_files():
            for node in ast.walk(parsed(path)):
                if isinstance(node, ast.Attribute) and node.attr not in own | METHODS:
                    self.refuse("L18 or L25", path, node.lineno, node.attr)

    def test_names_of_properties_and_static_methods(self):
        plain, marked = [], []
        for path in source_files():
            for method in methods_of(parsed(path)):
                (marked if method.decorator_list else plain).append(method.name)
        for name in set(marked) & (set(plain) | assigned_attributes() | METHODS):
            self.refuse("L5 Properties or L5 Static", PACKAGE, 0, name)

    def test_no_name_is_a_method_and_an_attribute(self):
        methods = {method.name for path in source_files() for method in methods_of(parsed(path))}
        for name in methods & assigned_attributes():
            self.refuse("L18", PACKAGE, 0, name)

    def test_generators(self):
        for path in source_files():
            for function in functions_of(parsed(path)):
                nodes = list(ast.walk(function))
                if any(isinstance(node, (ast.Yield, ast.YieldFrom)) for node in nodes):
                    for node in nodes:
                        if isinstance(node, (ast.Try, ast.With)) or (
                            isinstance(node, ast.Return) and node.value is not None
                        ):
                            self.refuse("L23", path, node.lineno)

    def test_words(self):
        for path in source_files():
            docstrings = set()
            for node in ast.walk(parsed(path)):
                if is_docstring(node):
                    docstrings.update(range(node.lineno, node.end_lineno + 1))
            with open(path, "rb") as file:
                for token in tokenize.tokenize(file.readline):
                    line = token.start[0]
                    text = token.type == tokenize.STRING and line not in docstrings
                    if text and "%" in token.string:
                        self.refuse("L27", path, line)
                    if token.type == tokenize.NAME or text:
                        if BARRED_WORDS.search(token.string):
                            self.refuse("L17", path, line, token.string)

    def test_calls_of_builtins(self):
        for path in source_files():
            for node in ast.walk(parsed(path)):
                if not isinstance(node, ast.Call):
                    continue
                name = getattr(node.func, "id", "")
                if name in COLLECTING and any(
                    isinstance(part, ast.GeneratorExp) for part in node.args
                ):
                    self.refuse("L7", path, node.lineno, name)
                if getattr(node.func, "attr", "") == "sort":
                    self.refuse("L5 Operators", path, node.lineno, "sort")

    def test_what_is_sorted_is_plain(self):
        """Classes with an order are in the package, so only integers and strings are sorted."""
        for path in source_files():
            for node in ast.walk(parsed(path)):
                if isinstance(node, ast.Call) and getattr(node.func, "id", "") in ("sorted", "min", "max"):
                    part = node.args[0]
                    plain = isinstance(part, ast.ListComp) and isinstance(part.elt, ast.Call)
                    if not plain or getattr(part.elt.func, "id", "") not in ("int", "str", "len", "ord"):
                        self.refuse("L5 Operators", path, node.lineno)

    def test_exits(self):
        """An __exit__ only gives attributes other values, where an error is on its way."""
        for path in source_files():
            for method in methods_of(parsed(path)):
                if method.name != "__exit__":
                    continue
                for node in ast.walk(method):
                    if isinstance(node, (ast.Call, ast.BinOp, ast.Subscript, ast.Raise, ast.For, ast.While)):
                        self.refuse("L6 With", path, node.lineno)
                    if isinstance(node, ast.If) and ast.unparse(node.test) not in ("kind is None", "kind is not None"):
                        self.refuse("L6 With", path, node.lineno)

    def test_handlers(self):
        for path in source_files():
            for node in ast.walk(parsed(path)):
                if isinstance(node, ast.ExceptHandler) and node.type is None:
                    self.refuse("L6", path, node.lineno)
                if isinstance(node, ast.Raise) and isinstance(node.exc, ast.Name):
                    self.refuse("L19", path, node.lineno)


if __name__ == "__main__":
    unittest.main()
