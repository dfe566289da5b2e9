"""Those rules of the program's Python subset that can be looked at mechanically, by their numbers.

It looks for the slips that happen most easily; it does not take the place of reading the rules.
"""

import ast
import builtins
import re

PACKAGE = "betweenfaces"
LIBRARY = {"math": {"gcd", "lcm", "isqrt", "comb", "perm", "factorial"},
           "heapq": {"heappush", "heappop", "heapify", "heapreplace", "heappushpop"}}
BUILTINS = set("""len range enumerate zip min max sum abs sorted reversed int str bool list tuple dict set isinstance ord repr
    any all divmod pow iter next Exception ValueError TypeError KeyError IndexError LookupError ZeroDivisionError
    ArithmeticError OverflowError RuntimeError NotImplementedError AttributeError NotImplemented super property
    classmethod staticmethod""".split())
METHODS = set("""append clear copy count endswith extend find get index insert isalnum isalpha isdigit islower isspace
    isupper items join keys ljust lower lstrip partition pop remove replace reverse rfind rjust rpartition rsplit rstrip
    setdefault split splitlines startswith strip update upper values zfill bit_length title capitalize swapcase casefold
    expandtabs removeprefix removesuffix rindex isascii isdecimal isnumeric isidentifier add discard""".split())
DUNDERS = set("""init eq repr str len enter exit call iter lt le gt ge ne add sub mul floordiv mod pow and or xor lshift
    rshift neg pos invert abs bool contains getitem setitem""".split())
NOT_NAMES = set("""register mro elements open input law version_info with_traceback add_note attrgetter breakpoint builtins
    compile copyright credits delattr dir eval exec exit gc getattr globals hasattr help id importlib license locals
    methodcaller os quit setattr super type vars sys""".split())
NOT_WORDS = re.compile(r"\b(type|typing|typing_extensions|enum|Enum|IntEnum|StrEnum|Flag|IntFlag|Generic|Protocol|ABC|"
                       r"ABCMeta|namedtuple|NamedTuple|TypedDict|TYPE_CHECKING|abstractmethod)\b|"
                       r"dataclass|overload|contextmanager|Meta|metaclass=|\(type\)|_wall|_WallAttr")
STATEMENTS = (ast.FunctionDef, ast.ClassDef, ast.Assign, ast.Import, ast.ImportFrom, ast.Expr, ast.If, ast.While, ast.For,
              ast.Return, ast.Break, ast.Continue, ast.Pass, ast.Raise, ast.Assert, ast.Delete, ast.Nonlocal, ast.Match,
              ast.With, ast.Try, ast.AugAssign, ast.AnnAssign)
WRITERS = ("__str__", "__repr__")


def own_names(texts):
    """The names of all methods that the classes of some texts define."""
    return {part.name for text in texts for node in ast.walk(ast.parse(text)) if isinstance(node, ast.ClassDef)
            for part in node.body if isinstance(part, ast.FunctionDef)}


def faults(text, own=()):
    """The list of (rule, line) of what breaks a rule in a text of a package with these methods of its own."""
    tree = ast.parse(text)
    found = _characters(text) + _module_level(tree) + _imports(tree)
    for node in ast.walk(tree):
        found += _statement(node) + _expression(node) + _names(node)
        if isinstance(node, ast.FunctionDef):
            found += _function(node) + changed_in_loops(node)
        if isinstance(node, ast.ClassDef):
            found += _class(node)
        if isinstance(node, ast.Call) and isinstance(node.func, ast.Attribute):
            found += [] if node.func.attr in METHODS or node.func.attr in own else [("L25", node.lineno)]
    return sorted(set(found))


def cycles(texts):
    """The modules that import each other, from a dict of the texts by module name."""
    uses = {name: {node.module.partition(".")[2] for node in ast.walk(ast.parse(text))
                   if isinstance(node, ast.ImportFrom) and node.module.startswith(PACKAGE + ".")} for name, text in texts.items()}
    found = []
    for name in uses:
        reached, waiting = set(), sorted(uses[name])
        while waiting:
            other = waiting.pop()
            if other not in reached:
                reached.add(other)
                waiting += sorted(uses.get(other, ()))
        found += [name] if name in reached else []
    return found


def property_faults(texts):
    """The list of (rule, file, line) of what breaks a rule by the name of a property, from a dict of texts by file.

    What class an object has cannot be seen here: the name of an attribute stands for that of each property.
    """
    trees = {name: ast.parse(text) for name, text in texts.items()}
    told, fixed = _properties(trees.values())
    return sorted((rule, name, line) for name, tree in trees.items() for node in ast.walk(tree)
                  for rule, line in _property_use(node, told, fixed))


def package_faults(texts):
    """The list of (rule, file, line) of what breaks a rule about names and generators of the whole package."""
    trees = {name: ast.parse(text) for name, text in texts.items()}
    functions = [node for tree in trees.values() for node in ast.walk(tree) if isinstance(node, ast.FunctionDef)]
    generators = {node.name for node in functions if any(isinstance(part, (ast.Yield, ast.YieldFrom)) for part in ast.walk(node))}
    many = [node.name for node in functions]
    found = [("L23", name, 1) for name in generators if many.count(name) > 1]
    found += _two_meanings(trees)
    for name, tree in trees.items():
        found += [(rule, name, line) for rule, line in _local_names(tree) + _stars(tree) + _shadows(tree)]
        found += [("L23", name, line) for line in _kept_generators(tree, generators)]
        found += [("L18", name, node.lineno) for node in ast.walk(tree) if isinstance(node, ast.ClassDef) and _both(node)]
    return sorted(set(found))


def _local_names(tree):
    """Parameters and variables that have the name of a class or an import of the file."""
    told = {part.name for node in tree.body if isinstance(node, ast.ImportFrom) for part in node.names}
    told |= {node.name for node in tree.body if isinstance(node, ast.ClassDef)}
    bound = [(node.arg, node.lineno) for node in ast.walk(tree) if isinstance(node, ast.arg)]
    bound += [(node.id, node.lineno) for node in ast.walk(tree) if isinstance(node, ast.Name) and isinstance(node.ctx, ast.Store)]
    return [("L15", line) for name, line in bound if name in told]


def _stars(tree):
    """Stars in calls behind which stands something else than a name, an attribute of a name, or a literal list."""
    found = []
    for node in [node for node in ast.walk(tree) if isinstance(node, ast.Call)]:
        starred = [one.value for one in node.args if isinstance(one, ast.Starred)]
        starred += [one.value for one in node.keywords if one.arg is None]
        for one in starred:
            plain = isinstance(one, ast.Name) or (isinstance(one, ast.Attribute) and isinstance(one.value, ast.Name))
            found += [] if plain else [("L7", node.lineno)]
    return found


COMPREHENSIONS = (ast.ListComp, ast.SetComp, ast.DictComp, ast.GeneratorExp)


def _targets(node):
    return {part.id for own in node.generators for part in ast.walk(own.target) if isinstance(part, ast.Name)}


def _shadows(tree):
    """Comprehensions within comprehensions that assign a name that is assigned further out."""
    found = []
    for function in [node for node in ast.walk(tree) if isinstance(node, ast.FunctionDef)]:
        outer = {part.arg for part in ast.walk(function.args) if isinstance(part, ast.arg)}
        inside = {id(part) for node in ast.walk(function) if isinstance(node, COMPREHENSIONS) for part in ast.walk(node)}
        outer |= {node.id for node in ast.walk(function) if isinstance(node, ast.Name) and isinstance(node.ctx, ast.Store)
                  and id(node) not in inside}
        for node in [node for node in ast.walk(function) if isinstance(node, COMPREHENSIONS)]:
            within = [part for part in ast.walk(node) if isinstance(part, COMPREHENSIONS) and part is not node]
            found += [("L7", part.lineno) for part in within if _targets(part) & (outer | _targets(node))]
    return found


def _kept_generators(tree, generators):
    """Calls of generators that are not iterated on the spot."""
    iterated = set()
    for node in ast.walk(tree):
        if isinstance(node, ast.For):
            iterated.add(id(node.iter))
        if isinstance(node, COMPREHENSIONS):
            iterated |= {id(own.iter) for own in node.generators}
        if isinstance(node, ast.Call) and isinstance(node.func, ast.Name) and node.func.id in ("list", "tuple", "any", "all", "sum"):
            iterated |= {id(one) for one in node.args}
    calls = [node for node in ast.walk(tree) if isinstance(node, ast.Call)]
    named = [node for node in calls if (isinstance(node.func, ast.Name) and node.func.id in generators)
             or (isinstance(node.func, ast.Attribute) and node.func.attr in generators)]
    return [node.lineno for node in named if id(node) not in iterated]


def _both(node):
    """Whether a name is a method and an attribute of a class."""
    methods = {part.name for part in node.body if isinstance(part, ast.FunctionDef)}
    assigned = {part.attr for part in ast.walk(node) if isinstance(part, ast.Attribute) and isinstance(part.ctx, ast.Store)
                and isinstance(part.value, ast.Name) and part.value.id == "self"}
    setters = {part.name for part in node.body if isinstance(part, ast.FunctionDef) and part.decorator_list}
    return (methods - setters) & assigned


MODIFIERS = {"append", "clear", "extend", "insert", "pop", "remove", "reverse", "setdefault", "update", "add", "discard", "sort"}
HEAPS = {"heappush", "heappop", "heapify", "heapreplace", "heappushpop"}
VIEWS = {"items", "keys", "values"}
PASSED_ON = {"enumerate", "zip", "reversed", "map", "iter", "chain", "pairwise", "accumulate", "islice", "zip_longest", "product"}


def changed_in_loops(function):
    """The list of (rule, line) of what is changed in a loop or comprehension that goes over it, by any of its names."""
    names = _one_thing(function)
    found = []
    for node in ast.walk(function):
        if isinstance(node, (ast.For, *COMPREHENSIONS)):
            iterated = [node.iter] if isinstance(node, ast.For) else [own.iter for own in node.generators]
            walked = {_root(names, name) for one in iterated for name in _walked(one)}
            found += [("L23", line) for name, line in _changes(node) if _root(names, name) in walked]
    return found


def _path(node):
    """The text of what has a name: a variable, an attribute or an item."""
    named = isinstance(node, (ast.Name, ast.Attribute)) or (isinstance(node, ast.Subscript) and not isinstance(node.slice, ast.Slice))
    return [ast.unparse(node)] if named else []


def _chosen(node):
    """The texts of the named things that the value of an expression may be."""
    if isinstance(node, ast.IfExp):
        return _chosen(node.body) + _chosen(node.orelse)
    if isinstance(node, ast.BoolOp):
        return [name for one in node.values for name in _chosen(one)]
    return _chosen(node.value) + _path(node.target) if isinstance(node, ast.NamedExpr) else _path(node)


def _walked(node):
    """The texts of the things that a loop over an expression goes over."""
    if isinstance(node, ast.Call) and isinstance(node.func, ast.Attribute) and node.func.attr in VIEWS:
        return _chosen(node.func.value)
    if isinstance(node, ast.Call) and isinstance(node.func, ast.Name) and node.func.id in PASSED_ON:
        return [name for one in node.args for name in _walked(one.value if isinstance(one, ast.Starred) else one)]
    return _chosen(node)


def _changes(loop):
    """The pairs (text, line) of what is changed within a loop or comprehension."""
    found = []
    for node in ast.walk(loop):
        written = isinstance(node, ast.Subscript) and isinstance(node.ctx, (ast.Store, ast.Del))
        changed = _chosen(node.value) if written else []
        changed += _path(node.target) if isinstance(node, ast.AugAssign) else []
        if isinstance(node, ast.Call) and isinstance(node.func, ast.Attribute) and node.func.attr in MODIFIERS:
            changed += _chosen(node.func.value)
        if isinstance(node, ast.Call) and isinstance(node.func, ast.Name) and node.func.id in HEAPS:
            changed += _chosen(node.args[0])
        found += [(name, node.lineno) for name in changed]
    return found


def _one_thing(function):
    """A dict that leads names of one thing to each other: a function assigns one of them to the other."""
    names = {}
    for node in ast.walk(function):
        told = []
        if isinstance(node, ast.Assign):
            told = [(target, node.value) for target in node.targets]
        elif isinstance(node, (ast.AnnAssign, ast.NamedExpr)) and node.value is not None:
            told = [(node.target, node.value)]
        elif isinstance(node, (ast.For, ast.comprehension)) and isinstance(node.iter, (ast.List, ast.Tuple)):
            told = [(node.target, one) for one in node.iter.elts]
        while told:
            target, value = told.pop()
            if isinstance(target, (ast.Tuple, ast.List)) and isinstance(value, (ast.Tuple, ast.List)):
                told += list(zip(target.elts, value.elts))
            for name in _path(target):
                for other in _chosen(value):
                    names[_root(names, name)] = _root(names, other)
    return names


def _root(names, name):
    """The one name that stands for all names of a thing."""
    while names.get(name, name) != name:
        name = names[name]
    return name


def _two_meanings(trees):
    """Methods of a class whose name is that of an attribute of any class: the rule allows few of them, this none."""
    classes = [(name, node) for name, tree in trees.items() for node in ast.walk(tree) if isinstance(node, ast.ClassDef)]
    assigned = {part.attr for _, node in classes for part in ast.walk(node)
                if isinstance(part, ast.Attribute) and isinstance(part.ctx, ast.Store)}
    return [("L18", name, part.lineno) for name, node in classes for part in node.body
            if isinstance(part, ast.FunctionDef) and part.name in assigned and not part.decorator_list]


def _properties(trees):
    """The names of all properties, and of those that have no setter in some class."""
    told, fixed = set(), set()
    for node in [node for tree in trees for node in ast.walk(tree) if isinstance(node, ast.ClassDef)]:
        decorators = {ast.unparse(one): part.name for part in node.body if isinstance(part, ast.FunctionDef)
                      for one in part.decorator_list}
        own = {part.name for part in node.body if isinstance(part, ast.FunctionDef)
               if any(ast.unparse(one) == "property" for one in part.decorator_list)}
        told |= own
        fixed |= {name for name in own if f"{name}.setter" not in decorators}
    return told, fixed


def _property_use(node, told, fixed):
    if isinstance(node, ast.Attribute) and node.attr in told:
        assigned = isinstance(node.ctx, ast.Store) and node.attr in fixed
        return [("L5", node.lineno)] if assigned or isinstance(node.ctx, ast.Del) else []
    if isinstance(node, ast.Call):
        starred = [one.value for one in node.args if isinstance(one, ast.Starred)]
        starred += [one.value for one in node.keywords if one.arg is None]
        found = [("L7", node.lineno) for one in starred if isinstance(one, ast.Attribute) and one.attr in told]
        return found + ([("L5", node.lineno)] if isinstance(node.func, ast.Attribute) and node.func.attr in told else [])
    if isinstance(node, (ast.List, ast.Tuple)):
        starred = [one.value for one in node.elts if isinstance(one, ast.Starred)]
        return [("L7", node.lineno) for one in starred if isinstance(one, ast.Attribute) and one.attr in told]
    return []


def _characters(text):
    lines = text.split("\n")
    found = [("L10", at) for at, line in enumerate(lines, 1) if len(line) > 120]
    found += [("L14", at) for at, line in enumerate(lines, 1) if re.search("[^ -~]", line)]
    found += [("L17", at) for at, line in enumerate(lines, 1) if NOT_WORDS.search(line)]
    return found + ([("L10", len(lines))] if len(lines) > 400 else [])


def _module_level(tree):
    found = []
    for at, node in enumerate(tree.body):
        docstring = at == 0 and isinstance(node, ast.Expr) and isinstance(node.value, ast.Constant)
        known = isinstance(node, (ast.FunctionDef, ast.ClassDef, ast.ImportFrom, ast.Assign))
        if not docstring and not known:
            found.append(("L3", node.lineno))
        if isinstance(node, ast.Assign) and any(isinstance(part, (ast.Call, ast.JoinedStr)) for part in ast.walk(node)):
            found.append(("L3", node.lineno))
    names = [node.name for node in tree.body if isinstance(node, (ast.FunctionDef, ast.ClassDef))]
    names += [part.name for node in tree.body if isinstance(node, ast.ImportFrom) for part in node.names]
    names += [node.targets[0].id for node in tree.body if isinstance(node, ast.Assign)]
    return found + [("L15", 1) for name in set(names) if names.count(name) > 1]


def _imports(tree):
    found = []
    for node in ast.walk(tree):
        if isinstance(node, ast.Import) or (isinstance(node, ast.ImportFrom) and node not in tree.body):
            found.append(("L2", node.lineno))
        elif isinstance(node, ast.ImportFrom):
            own = node.module is not None and node.level == 0 and node.module.startswith(PACKAGE + ".")
            names = {part.name for part in node.names}
            if not own and not names <= LIBRARY.get(node.module, set()):
                found.append(("L2", node.lineno))
            if any(part.asname or part.name == "*" for part in node.names):
                found.append(("L2", node.lineno))
    return found


def _statement(node):
    if isinstance(node, ast.stmt) and not isinstance(node, STATEMENTS):
        return [("L6", node.lineno)]
    if isinstance(node, ast.Try):
        named = [ast.unparse(handler.type) if handler.type else "" for handler in node.handlers]
        barred = {"", "Exception", "TypeError", "ArithmeticError", "OverflowError", "RuntimeError", "AttributeError"}
        # The package has operators and lengths: hardly anything may stand in a try that catches these.
        barred |= {"ValueError", "LookupError", "IndexError"}
        return [("L19", node.lineno) for name in named if name in barred]
    if isinstance(node, ast.Raise) and node.exc is not None and not isinstance(node.exc, ast.Call):
        return [("L19", node.lineno)]
    return []


def _expression(node):
    line = getattr(node, "lineno", 0)
    if isinstance(node, ast.Constant):
        wrong = isinstance(node.value, (float, complex)) or (isinstance(node.value, str) and "%" in node.value)
        return [("L27", line)] if wrong else []
    if isinstance(node, (ast.BinOp, ast.AugAssign)) and isinstance(node.op, (ast.Div, ast.MatMult)):
        return [("L7", line)]
    if isinstance(node, (ast.GeneratorExp, ast.Await, ast.AsyncFunctionDef)):
        return [("L7", line)]
    # A star may stand in a list or a tuple, but not if that stands in an index, and not in a set.
    if isinstance(node, ast.Subscript) and any(isinstance(part, ast.Starred) for part in ast.walk(node.slice)):
        return [("L7", line)]
    if isinstance(node, ast.Set) and any(isinstance(one, ast.Starred) for one in node.elts):
        return [("L7", line)]
    if isinstance(node, ast.Compare) and any(isinstance(op, (ast.Is, ast.IsNot)) for op in node.ops):
        plain = all(isinstance(one, ast.Constant) and one.value in (None, True, False) for one in node.comparators)
        return [] if plain else [("L20", line)]
    if isinstance(node, ast.Call):
        return _call(node)
    return []


def _call(node):
    found = []
    if isinstance(node.func, ast.Name) and node.func.id in ("len", "reversed") and node.args:
        inner = node.args[0]
        bare = isinstance(inner, ast.Call) and isinstance(inner.func, ast.Name) and inner.func.id in ("zip", "enumerate")
        found += [("L23", node.lineno)] if bare else []
    if isinstance(node.func, ast.Attribute) and node.func.attr in ("sort", "format", "index", "remove"):
        found.append(("L25", node.lineno))
    return found


def _names(node):
    line = getattr(node, "lineno", 0)
    found = []
    if isinstance(node, ast.Name):
        known = node.id in BUILTINS or not hasattr(builtins, node.id)
        found += [] if known else [("L8", line)]
        if isinstance(node.ctx, ast.Store) and (hasattr(builtins, node.id) or node.id in NOT_NAMES):
            found.append(("L15", line))
    for name in _bound(node):
        if name in NOT_NAMES or hasattr(builtins, name) or (name.startswith("__") and not name.endswith("__")):
            found.append(("L15", line))
    if isinstance(node, ast.Attribute) and node.attr.startswith("__") and node.attr != "__init__":
        found.append(("L8", line))
    return found


def _bound(node):
    """The names of parameters, functions and classes that a node binds; methods are looked at as functions."""
    if isinstance(node, ast.arg):
        return [node.arg]
    if isinstance(node, ast.ClassDef):
        return [node.name]
    if isinstance(node, ast.FunctionDef) and not node.name.startswith("__"):
        return [node.name]
    return []


def _function(node):
    found = []
    first = min([node.lineno] + [part.lineno for part in node.decorator_list])
    if node.end_lineno - first + 1 > 40:
        found.append(("L10", node.lineno))
    for default in node.args.defaults + [one for one in node.args.kw_defaults if one is not None]:
        if any(isinstance(part, (ast.List, ast.Dict, ast.Set, ast.Call)) for part in ast.walk(default)):
            found.append(("L4", node.lineno))
    if node.name in WRITERS:
        for part in ast.walk(node):
            if isinstance(part, (ast.Assign, ast.AugAssign)):
                found.append(("L28", part.lineno))
            if isinstance(part, ast.Return) and not isinstance(part.value, (ast.JoinedStr, ast.Constant, ast.Call)):
                found.append(("L28", part.lineno))
        if not isinstance(node.body[-1], ast.Return):
            found.append(("L28", node.lineno))
    return found


def _class(node):
    found = []
    methods = [part for part in node.body if isinstance(part, ast.FunctionDef)]
    names = [method.name for method in methods]
    for method in methods:
        if method.name.startswith("__") and method.name.strip("_") not in DUNDERS:
            found.append(("L5", method.lineno))
        for decorator in method.decorator_list:
            if ast.unparse(decorator) not in ("property", "classmethod", "staticmethod", f"{method.name}.setter"):
                found.append(("L5", method.lineno))
    if node.decorator_list:
        found.append(("L5", node.lineno))
    if "__getitem__" in names and "__iter__" not in names:
        found.append(("L5", node.lineno))
    return found
