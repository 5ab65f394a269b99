"""Going through a tree: which scopes there are, and what the tree says of their names."""

from codewalk.errors import NoProgram
from codewalk.forms import WORDLESS, inside

FUNCTION_WORDS = ("function", "lambda", "list", "dict", "generator")
COMPREHENSION_WORDS = ("list", "dict", "generator")

# The word and the name of the scope of each comprehension.
COMPREHENSIONS = {
    "ListComp": ("list", "<listcomp>"),
    "DictComp": ("dict", "<dictcomp>"),
    "GeneratorExp": ("generator", "<genexpr>"),
}


class Scope:
    """A scope. Its dicts have names for keys, in the order in which they are met."""

    def __init__(self, word, name, path, number, around):
        self.word = word
        self.name = name
        self.path = path
        self.number = number
        self.around = around
        self.parameters = {}
        self.bound = {}
        self.used = {}
        # Declared Global or Nonlocal, with the line; in a comprehension by a NamedExpr that binds further around.
        self.shared = {}
        self.borrowed = {}
        # What the clauses of a comprehension bind, known before they are gone through.
        self.turned = {}
        self.kinds = {}
        self.frees = {}

    def is_function(self):
        return self.word in FUNCTION_WORDS

    def is_comprehension(self):
        return self.word in COMPREHENSION_WORDS


class Spot:
    """Where the walk is: the scope, the line, and whether this is the value of a clause or inside of one."""

    def __init__(self, scope, line, iterable):
        self.scope = scope
        self.line = line
        self.iterable = iterable


def gathered(tree):
    """The scopes of a right tree, by their numbers. Raises NoProgram."""
    walk = Walk()
    program = walk.opened("program", "<module>", None)
    walk.row("statement", tree, Spot(program, 1, False))
    return walk.scopes


class Walk:
    """A walk through a tree, with the scopes that it has opened so far."""

    def __init__(self):
        self.scopes = []

    def opened(self, word, name, around):
        scope = Scope(word, name, path_of(name, around), len(self.scopes), around)
        self.scopes.append(scope)
        return scope

    def row(self, role, nodes, spot):
        for node in nodes:
            self.visit(role, node, spot)

    def visit_inside(self, role, node, spot):
        for inner, part, _ in inside(role, node):
            self.visit(inner, part, spot)

    def visit(self, role, node, spot):
        if role == "statement":
            self.visit_statement(node, Spot(spot.scope, node[1], False))
        elif role == "handler":
            if node[2] is not None:
                spot.scope.bound[node[2]] = True
            self.visit_inside(role, node, Spot(spot.scope, node[0], False))
        elif role in WORDLESS:
            self.visit_inside(role, node, spot)
        else:
            self.visit_expression(role, node, spot)

    def visit_statement(self, node, spot):
        match node[0]:
            case "Global" | "Nonlocal":
                for name in node[2]:
                    declare(node[0], name, spot)
            case "Function":
                self.visit_function(node, spot)
            case "Class":
                self.visit_class(node, spot)
            case _:
                self.visit_inside("statement", node, spot)

    def visit_expression(self, role, node, spot):
        match node[0]:
            case "Name":
                meet(role, node[1], spot.scope)
            case "Lambda":
                self.visit_lambda(node, spot)
            case "ListComp" | "DictComp" | "GeneratorExp":
                self.visit_comprehension(node, spot)
            case "NamedExpr":
                bind_named(node[1], spot)
                self.visit("expression", node[2], spot)
            case _:
                if node[0] in ("Yield", "YieldFrom") and spot.scope.is_comprehension():
                    raise NoProgram(spot.line, "inside")
                self.visit_inside(role, node, spot)

    def visit_function(self, node, spot):
        spot.scope.bound[node[2]] = True
        self.visit("parameters", node[3], spot)
        self.row("expression", node[5], spot)
        scope = self.opened("function", node[2], spot.scope)
        take_parameters(node[3], scope, spot.line)
        self.row("statement", node[4], Spot(scope, spot.line, False))

    def visit_lambda(self, node, spot):
        self.visit("parameters", node[1], spot)
        scope = self.opened("lambda", "<lambda>", spot.scope)
        take_parameters(node[1], scope, spot.line)
        self.visit("expression", node[2], Spot(scope, spot.line, spot.iterable))

    def visit_class(self, node, spot):
        spot.scope.bound[node[2]] = True
        self.row("expression", node[5], spot)
        self.row("expression", node[3], spot)
        scope = self.opened("class", node[2], spot.scope)
        self.row("statement", node[4], Spot(scope, spot.line, False))

    def visit_comprehension(self, node, spot):
        word, name = COMPREHENSIONS[node[0]]
        clauses = node[-1]
        self.visit("expression", clauses[0][1], Spot(spot.scope, spot.line, True))
        scope = self.opened(word, name, spot.scope)
        scope.parameters[".0"] = True
        scope.bound[".0"] = True
        for clause in clauses:
            for turned in names_of(clause[0]):
                scope.turned[turned] = True
        for at, clause in enumerate(clauses):
            self.visit_clause(clause, at > 0, Spot(scope, spot.line, spot.iterable))
        self.row("expression", node[1:-1], Spot(scope, spot.line, spot.iterable))

    def visit_clause(self, clause, further, spot):
        self.visit("target", clause[0], spot)
        if further:
            self.visit("expression", clause[1], Spot(spot.scope, spot.line, True))
        self.row("expression", clause[2], spot)


def path_of(name, around):
    """The path of a scope that is opened in another one."""
    if around is None or around.word == "program" or name in around.shared:
        return name
    if around.is_function():
        return f"{around.path}.<locals>.{name}"
    return f"{around.path}.{name}"


def take_parameters(parameters, scope, line):
    """Bind the parameters of a scope that has just been opened."""
    names, _, rest, only, _, more = parameters
    for name in [*names, *only, rest, more]:
        if name in scope.parameters:
            raise NoProgram(line, "again")
        if name is not None:
            scope.parameters[name] = True
            scope.bound[name] = True


def meet(role, name, scope):
    """Bind or use a Name; the one of an AugAssign, of role single, is both."""
    target = role in ("target", "piece", "single", "deletion")
    if target:
        scope.bound[name] = True
    if not target or role == "single":
        scope.used[name] = True


def declare(word, name, spot):
    """Declare a name Global or Nonlocal."""
    scope = spot.scope
    if name in scope.parameters:
        raise NoProgram(spot.line, "parameter")
    if name in scope.bound or name in scope.used:
        raise NoProgram(spot.line, "late")
    if name in (scope.borrowed if word == "Global" else scope.shared):
        raise NoProgram(spot.line, "both")
    if word == "Nonlocal" and scope.word == "program":
        raise NoProgram(spot.line, "outside")
    # The first line counts, if the name is declared so again.
    if word == "Global":
        scope.shared.setdefault(name, spot.line)
    else:
        scope.borrowed.setdefault(name, spot.line)


def bind_named(name, spot):
    """Bind the name of a NamedExpr, in the nearest scope around that is no comprehension."""
    if spot.iterable:
        raise NoProgram(spot.line, "iterable")
    passed = []
    scope = spot.scope
    while scope.is_comprehension():
        if name in scope.turned:
            raise NoProgram(spot.line, "rebound")
        passed.append(scope)
        scope = scope.around
    if passed and scope.word == "class":
        raise NoProgram(spot.line, "body")
    scope.bound[name] = True
    for comprehension in passed:
        if scope.word == "program" or name in scope.shared:
            comprehension.shared[name] = spot.line
        else:
            comprehension.borrowed[name] = spot.line


def names_of(target):
    """The names that a target binds."""
    match target[0]:
        case "Name":
            return [target[1]]
        case "Tuple" | "List":
            return [name for piece in target[1] for name in names_of(piece)]
        case "Starred":
            return names_of(target[1])
    return []
