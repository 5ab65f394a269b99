"""The scopes of a program, and the kind of each name in them."""

from codewalk.errors import NoProgram
from codewalk.gathering import gathered
from codewalk.trees import check


def scopes(tree):
    """All scopes of a program, as tuples (word, name, path, parent, kinds, frees). Raises NoTree, NoProgram."""
    return [told(scope) for scope in settled(tree)]


def settled(tree):
    """The scopes of a program with the kinds of their names. Raises NoTree, NoProgram."""
    check(tree)
    found = gathered(tree)
    for scope in found:
        set_kinds(scope)
    return found


def told(scope):
    parent = None if scope.around is None else scope.around.number
    return (scope.word, scope.name, scope.path, parent, dict(scope.kinds), tuple(sorted(scope.frees)))


def set_kinds(scope):
    """Set the kinds of the names that a scope binds, uses or declares; the scopes around have theirs already.

    Those that are free in it become cells where they belong.
    """
    kinds = scope.kinds
    for name in scope.shared:
        kinds[name] = "global"
    if scope.borrowed:
        borrow(scope)
    for name in scope.bound:
        if name not in kinds:
            kinds[name] = "local"
    for name in scope.used:
        if name not in kinds:
            if is_owned(name, scope):
                kinds[name] = "free"
                pass_free(name, scope)
            else:
                kinds[name] = "implicit"


def borrow(scope):
    """Set the kinds of the names that a scope has of a scope around because it says so."""
    for name, line in scope.borrowed.items():
        if not is_owned(name, scope):
            raise NoProgram(line, "unbound")
        if name not in scope.kinds:
            scope.kinds[name] = "free"
            pass_free(name, scope)


def is_owned(name, scope):
    """Whether a function scope around has a name that a scope only uses."""
    around = scope.around
    while around is not None:
        # What is free or implicit there has been looked for further around.
        if around.function and name in around.kinds:
            kind = around.kinds[name]
            return kind == "local" or kind == "free" or kind == "cell"
        around = around.around
    return False


def pass_free(name, scope):
    """Carry a free name outward, to the scope whose name it is, and make it free in all scopes between."""
    scope.frees[name] = True
    around = scope.around
    while not (around.function and around.kinds.get(name) in ("local", "cell")):
        around.frees[name] = True
        if name not in around.kinds:
            around.kinds[name] = "free"
        around = around.around
    around.kinds[name] = "cell"
    around.cells[name] = True
