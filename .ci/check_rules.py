"""Checks the files of the package against the rules of the language.

Not every rule can be seen from the outside of a run; the ones that are easily
broken by mistake are checked here. Each finding names the rule.
"""

import ast
import builtins
import io
import re
import sys
import tokenize
from pathlib import Path

LIBRARY = {
    "math": {"gcd", "lcm", "isqrt", "comb", "perm", "factorial"},
    "heapq": {"heappush", "heappop", "heapify", "heapreplace", "heappushpop"},
    "itertools": set("product combinations permutations chain accumulate pairwise islice zip_longest".split()),
    "collections": {"defaultdict"},
}
BUILTINS = set(
    "len range enumerate zip min max sum abs sorted reversed int str bool bytes list tuple dict set isinstance ord "
    "repr any all divmod pow getattr hasattr setattr iter next map super property staticmethod classmethod Exception "
    "ValueError TypeError KeyError IndexError LookupError ZeroDivisionError ArithmeticError OverflowError "
    "RuntimeError NotImplementedError AttributeError StopIteration NotImplemented".split()
)
METHODS = set(
    "append clear copy count endswith extend find get index insert isalnum isalpha isdigit islower isspace isupper "
    "items join keys ljust lower lstrip partition pop remove replace reverse rfind rjust rpartition rsplit rstrip "
    "setdefault split splitlines startswith strip update upper values zfill bit_length title capitalize swapcase "
    "casefold center expandtabs removeprefix removesuffix rindex isascii isdecimal isnumeric istitle isidentifier "
    "isprintable translate add discard sort".split()
)
DUNDERS = {"__init__", "__eq__", "__repr__", "__str__", "__len__", "__enter__", "__exit__", "__call__", "__iter__"}
UNUSED = {"register", "mro", "elements", "open", "input", "law", "version_info", "with_traceback", "add_note"}
UNUSED_VARIABLES = set(
    "attrgetter breakpoint builtins compile copyright credits delattr dir eval exec exit gc getattr globals hasattr "
    "help id importlib license locals methodcaller os quit setattr super type vars sys".split()
)
WORDS = set(
    "type typing typing_extensions enum Enum IntEnum StrEnum Flag IntFlag Generic Protocol ABC ABCMeta namedtuple "
    "NamedTuple TypedDict TYPE_CHECKING abstractmethod".split()
)
STORED_ATTRIBUTES = set(
    "items keys values pop update append clear extend insert remove reverse setdefault sort args encode decode hex "
    "fromhex format format_map".split()
)
BAD_NAME = re.compile(r"_(wall|pe_|dcw_|enum_|cm_|twin_re_|lay_|law_|stub_|sre|WallAttr)|"
                      r"_(cold|tuplegetter|outside|record|written_out|member_names)[0-9_]*$")
PLAIN_NAME = re.compile(r"_?[A-Za-z][A-Za-z0-9_]*$|_$")


class Checker:
    def __init__(self, folder):
        self.folder = Path(folder)
        self.findings = []
        self.trees = {}
        self.sources = {}

    def report(self, path, line, rule, words):
        self.findings.append(f"{path}:{line}: {rule} {words}")

    def run(self):
        for path in sorted(self.folder.rglob("*")):
            if "__pycache__" in path.parts or path.is_dir():
                continue
            if path.suffix != ".py" or not re.fullmatch(r"[a-z0-9_]+", path.stem):
                self.report(path, 1, "L1", "not a plain .py file")
                continue
            self.sources[path] = path.read_bytes().decode("utf-8")
            self.trees[path] = ast.parse(self.sources[path])
        self.methods = {
            part.name for tree in self.trees.values() for node in ast.walk(tree) if isinstance(node, ast.ClassDef)
            for part in node.body if isinstance(part, ast.FunctionDef)
        }
        for path, tree in self.trees.items():
            self.check_text(path)
            self.check_module(path, tree)
            self.check_nodes(path, tree)
        self.check_cycles()
        return self.findings

    def check_text(self, path):
        source = self.sources[path]
        lines = source.split("\n")
        if len(lines) > 400:
            self.report(path, 400, "L10", "more than 399 lines")
        for at, line in enumerate(lines, 1):
            if len(line) > 120:
                self.report(path, at, "L10", "more than 120 characters")
            if not all(" " <= letter <= "~" for letter in line):
                self.report(path, at, "L14", "a character outside the space to ~")
        for token in tokenize.generate_tokens(io.StringIO(source).readline):
            if token.type == tokenize.STRING:
                if re.search(r"\\(?![nt\\'\"])", token.string):
                    self.report(path, token.start[0], "L27", "an escape")
            if token.type == tokenize.NAME and token.string in WORDS:
                self.report(path, token.start[0], "L17", f"the word {token.string}")

    def check_module(self, path, tree):
        defined = []
        head = True
        for node in tree.body:
            if isinstance(node, ast.Expr) and isinstance(node.value, ast.Constant) and node is tree.body[0]:
                continue
            if isinstance(node, ast.ImportFrom):
                if not head:
                    self.report(path, node.lineno, "L2", "an import below other statements")
                defined.extend(self.check_import(path, node))
                continue
            head = False
            if isinstance(node, (ast.FunctionDef, ast.ClassDef)):
                defined.append(node.name)
            elif isinstance(node, ast.Assign) and len(node.targets) == 1 and isinstance(node.targets[0], ast.Name):
                defined.append(node.targets[0].id)
                for part in ast.walk(node.value):
                    if isinstance(part, (ast.Call, ast.ListComp, ast.DictComp, ast.SetComp, ast.Set, ast.Lambda)):
                        self.report(path, node.lineno, "L3", "no plain value")
            else:
                self.report(path, node.lineno, "L3", "a statement at module level")
        for name in {name for name in defined if defined.count(name) > 1}:
            self.report(path, 1, "L15", f"{name} is bound twice")
        fixed = {part.name for part in tree.body if isinstance(part, ast.ClassDef)}
        fixed |= {part.name for node in tree.body if isinstance(node, ast.ImportFrom) for part in node.names}
        for node in ast.walk(tree):
            if isinstance(node, ast.FunctionDef):
                self.check_function(path, node, set(defined), fixed)

    def check_import(self, path, node):
        names = [part.name for part in node.names]
        if node.level or any(part.asname for part in node.names):
            self.report(path, node.lineno, "L2", "the form of an import")
        if node.module in LIBRARY:
            if not set(names) <= LIBRARY[node.module]:
                self.report(path, node.lineno, "L2", "a name of the library")
        else:
            source = self.folder / Path(*node.module.split(".")[1:]).with_suffix(".py")
            body = self.trees[source].body if source in self.trees else []
            told = {getattr(part, "name", None) for part in body}
            told |= {target.id for part in body if isinstance(part, ast.Assign) for target in part.targets}
            if node.module.split(".")[0] != self.folder.name or not set(names) <= told:
                self.report(path, node.lineno, "L16", "a name that is not defined there")
        return names

    def check_function(self, path, node, defined, fixed):
        if node.end_lineno - node.lineno + 1 > 40:
            self.report(path, node.lineno, "L10", f"{node.name} has more than 40 lines")
        arguments = node.args
        bound = [part.arg for part in arguments.posonlyargs + arguments.args + arguments.kwonlyargs]
        bound += [part.arg for part in (arguments.vararg, arguments.kwarg) if part]
        for part in ast.walk(node):
            if isinstance(part, ast.Name) and isinstance(part.ctx, ast.Store):
                bound.append(part.id)
            if isinstance(part, ast.arg):
                bound.append(part.arg)
            if isinstance(part, ast.FunctionDef) and part is not node:
                bound.append(part.name)
            if isinstance(part, ast.ExceptHandler) and part.name:
                bound.append(part.name)
        handled = [part.name for part in ast.walk(node) if isinstance(part, ast.ExceptHandler) and part.name]
        for name in {name for name in handled if bound.count(name) > 1}:
            self.report(path, node.lineno, "L19", f"{name} is more than one handler's error")
        for name in set(bound):
            if name in fixed:
                self.report(path, node.lineno, "L15", f"{name} is a class or an import of the file")
            if name in defined:
                self.report(path, node.lineno, "L15", f"{name} is a name of the module, too")
            if hasattr(builtins, name) or name in UNUSED_VARIABLES | UNUSED:
                self.report(path, node.lineno, "L15", f"{name} may not be a variable")
            if not PLAIN_NAME.match(name) or BAD_NAME.match(name):
                self.report(path, node.lineno, "L12", f"the name {name}")
        for part in ast.walk(node):
            if isinstance(part, ast.Name) and isinstance(part.ctx, ast.Load):
                if part.id == "_" or part.id not in BUILTINS | defined | set(bound) and not self.around(path, part):
                    self.report(path, part.lineno, "L8", f"the name {part.id}")

    def around(self, path, name):
        """Tells whether a function around binds a name that a nested one reads."""
        for node in ast.walk(self.trees[path]):
            if isinstance(node, ast.FunctionDef) and node.lineno <= name.lineno <= node.end_lineno:
                for part in ast.walk(node):
                    if isinstance(part, ast.arg) and part.arg == name.id:
                        return True
                    if isinstance(part, ast.Name) and part.id == name.id and isinstance(part.ctx, ast.Store):
                        return True
        return False

    def check_nodes(self, path, tree):
        for node in ast.walk(tree):
            for part in ast.iter_child_nodes(node):
                part.parent = node
        for node in ast.walk(tree):
            for rule, words in self.faults_of(node):
                self.report(path, getattr(node, "lineno", 1), rule, words)

    def faults_of(self, node):
        if isinstance(node, (ast.Global, ast.AsyncFunctionDef, ast.AsyncFor, ast.AsyncWith, ast.Await, ast.Import)):
            yield "L6", type(node).__name__
        if isinstance(node, ast.Constant) and isinstance(node.value, (float, complex)):
            yield "L7", "a float"
        if isinstance(node, ast.Constant) and isinstance(node.value, str):
            if "%" in node.value or node.value.endswith(("._", ".__")):
                yield "L27", "a string"
        if isinstance(node, (ast.BinOp, ast.AugAssign)) and isinstance(node.op, (ast.Div, ast.MatMult)):
            yield "L7", "a division"
        if isinstance(node, ast.BinOp) and isinstance(node.op, ast.Pow):
            if not isinstance(node.right, ast.Constant) or not 0 <= node.right.value <= 64:
                yield "L27", "an exponent"
        if isinstance(node, ast.JoinedStr):
            for part in ast.walk(node):
                if isinstance(part, ast.FormattedValue):
                    inner = [x for x in ast.walk(part.value) if isinstance(x, (ast.Constant, ast.JoinedStr))]
                    if any(isinstance(x, ast.JoinedStr) or isinstance(x.value, (str, bytes)) for x in inner):
                        yield "L27", "a string in the braces of an f-string"
        if isinstance(node, ast.Compare) and any(isinstance(op, (ast.Is, ast.IsNot)) for op in node.ops):
            if not isinstance(node.comparators[0], ast.Constant):
                yield "L20", "is"
        if isinstance(node, (ast.Set, ast.SetComp)) or self.is_call_of(node, "set"):
            parent = node.parent
            called = self.is_call_of(parent, "sorted") or self.is_call_of(parent, "len")
            if not called and not isinstance(parent, (ast.Compare, ast.Assign)):
                yield "L24", "a set"
        if isinstance(node, (ast.FunctionDef, ast.ClassDef)):
            yield from self.faults_of_definition(node)
        if isinstance(node, ast.Attribute):
            yield from self.faults_of_attribute(node)
        if isinstance(node, ast.ExceptHandler) and node.type is None:
            yield "L6", "an except without an error"
        if isinstance(node, ast.GeneratorExp):
            if not isinstance(node.parent, ast.Call):
                yield "L7", "a generator expression"

    def is_call_of(self, node, name):
        return isinstance(node, ast.Call) and isinstance(node.func, ast.Name) and node.func.id == name

    def faults_of_definition(self, node):
        if hasattr(builtins, node.name) and not isinstance(node.parent, ast.ClassDef):
            yield "L15", f"{node.name} is a builtin"
        if node.name in UNUSED or BAD_NAME.match(node.name):
            yield "L12", f"the name {node.name}"
        if node.name.startswith("__") and node.name not in DUNDERS:
            yield "L5", f"the method {node.name}"
        for part in node.decorator_list:
            if not (isinstance(part, ast.Name) and part.id in ("property", "staticmethod", "classmethod")):
                if not (isinstance(part, ast.Attribute) and part.attr == "setter"):
                    yield "L4", "a decorator"
        if isinstance(node, ast.FunctionDef) and any(
            not isinstance(default, (ast.Constant, ast.Tuple, ast.UnaryOp, ast.Name, ast.BinOp))
            for default in node.args.defaults + [part for part in node.args.kw_defaults if part]
        ):
            yield "L4", "a default value"

    def faults_of_attribute(self, node):
        called = isinstance(node.parent, ast.Call) and node.parent.func is node
        if node.attr in UNUSED or node.attr.startswith("__") and node.attr != "__init__":
            yield "L17", f"the attribute {node.attr}"
        if isinstance(node.ctx, ast.Store) and node.attr in STORED_ATTRIBUTES:
            yield "L26", f"the attribute {node.attr}"
        if called and node.attr not in METHODS | self.methods:
            yield "L25", f"the method {node.attr}"

    def check_cycles(self):
        uses = {}
        for path, tree in self.trees.items():
            uses[path.stem] = [node.module.split(".")[-1] for node in tree.body
                               if isinstance(node, ast.ImportFrom) and node.module not in LIBRARY]
        while True:
            free = [name for name, used in uses.items() if not any(other in uses for other in used)]
            if not free:
                break
            for name in free:
                del uses[name]
        if uses:
            self.report(self.folder, 1, "L16", f"files import from each other: {sorted(uses)}")


def main(folder):
    findings = Checker(folder).run()
    for finding in findings:
        print(finding)
    print(f"rules: {len(findings)} findings")
    return 1 if findings else 0


if __name__ == "__main__":
    sys.exit(main(sys.argv[1]))
