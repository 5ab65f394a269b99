"""Scopes, and what binds and declares names in them. Where a tree is gone through, a Walk is told of it."""

from codewalk.encoding import FUNCTION, GENERATOR, NESTED, WITH_MORE, WITH_REST
from codewalk.errors import NoProgram

FUNCTION_WORDS = ("function", "lambda", "list", "dict", "generator")
COMPREHENSION_WORDS = ("list", "dict", "generator")


class Scope:
    """A scope. Its dicts have names for keys, in the order in which they are met."""

    def __init__(self, word, name, number, around, line):
        self.word = word
        self.name = name
        # Whether it is a function scope, and whether one is around it.
        self.function = word in FUNCTION_WORDS
        self.nested = around is not None and (around.function or around.nested)
        # The flags of its code, as far as is known.
        self.flags = (FUNCTION | NESTED if self.nested else FUNCTION) if self.function else 0
        self.number = number
        self.around = around
        self.line = line
        self.path = path_of(name, around)
        # The parameters: names, only, rest and more by themselves, and all in this order.
        self.taken = ((), (), None, None)
        self.parameters = {}
        self.bound = {}
        self.used = {}
        # Declared Global or Nonlocal, with the line; in a comprehension by a NamedExpr that binds further around.
        self.shared = {}
        self.borrowed = {}
        # What the clauses of a comprehension bind, known before they are gone through.
        self.turned = {}
        self.kinds = {}
        self.frees = {}
        self.cells = {}
        # Whether a Yield or a YieldFrom is its own.
        self.yields = False
        # What it runs, made ready for writing rows.
        self.content = None

    def is_function(self):
        return self.function

    def is_comprehension(self):
        return self.word in COMPREHENSION_WORDS

    def become_generator(self):
        """Tell that its code rests, if it is that of a function."""
        if self.function:
            self.flags |= GENERATOR


class Walk:
    """A walk through a tree: the scopes so far, and where it is."""

    def __init__(self):
        self.scopes = []
        self.scope = None
        self.line = 1
        # Whether this is the value of a clause, or inside of one.
        self.iterable = False

    def enter(self, word, name):
        """Open a scope inside of the present one, and go into it."""
        self.scope = Scope(word, name, len(self.scopes), self.scope, self.line)
        self.scopes.append(self.scope)

    def leave(self):
        self.scope = self.scope.around


def path_of(name, around):
    """The path of a scope that is opened in another one."""
    if around is None or around.word == "program" or name in around.shared:
        return name
    if around.function:
        return f"{around.path}.<locals>.{name}"
    return f"{around.path}.{name}"


def take_parameters(walk, parameters):
    """Bind the parameters of the scope that has just been entered."""
    scope = walk.scope
    names, _, rest, only, _, more = parameters
    if not names and not only and rest is None and more is None:
        return
    scope.taken = (tuple(names), tuple(only), rest, more)
    if rest is not None:
        scope.flags |= WITH_REST
    if more is not None:
        scope.flags |= WITH_MORE
    for name in [*names, *only, rest, more]:
        if name in scope.parameters:
            raise NoProgram(walk.line, "again")
        if name is not None:
            scope.parameters[name] = True
            scope.bound[name] = True


def declare(walk, word, name):
    """Declare a name Global or Nonlocal."""
    scope = walk.scope
    if name in scope.parameters:
        raise NoProgram(walk.line, "parameter")
    if name in scope.bound or name in scope.used:
        raise NoProgram(walk.line, "late")
    if name in (scope.borrowed if word == "Global" else scope.shared):
        raise NoProgram(walk.line, "both")
    if word == "Nonlocal" and scope.word == "program":
        raise NoProgram(walk.line, "outside")
    # The first line counts, if the name is declared so again.
    if word == "Global":
        scope.shared.setdefault(name, walk.line)
    else:
        scope.borrowed.setdefault(name, walk.line)


def bind_named(walk, name):
    """Bind the name of a NamedExpr, in the nearest scope around that is no comprehension."""
    if walk.iterable:
        raise NoProgram(walk.line, "iterable")
    passed = []
    scope = walk.scope
    while scope.is_comprehension():
        if name in scope.turned:
            raise NoProgram(walk.line, "rebound")
        passed.append(scope)
        scope = scope.around
    if passed and scope.word == "class":
        raise NoProgram(walk.line, "body")
    scope.bound[name] = True
    for comprehension in passed:
        if scope.word == "program" or name in scope.shared:
            comprehension.shared[name] = walk.line
        else:
            comprehension.borrowed[name] = walk.line


def names_of(target):
    """The names that a target binds."""
    match target[0]:
        case "Name":
            return [target[1]]
        case "Tuple" | "List":
            return [name for piece in target[1] for name in names_of(piece)]
        case "Starred":
            return names_of(target[1])
    return []
