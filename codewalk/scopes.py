"""The scopes of a program, and the kind of each name in them."""

from codewalk.errors import NoProgram
from codewalk.gathering import gathered
from codewalk.trees import check


def scopes(tree):
    """All scopes of a program, as tuples (word, name, path, parent, kinds, frees). Raises NoTree, NoProgram."""
    return [told(scope) for scope in settled(tree)]


def settled(tree):
    """The scopes of a program with the kinds of their names. Raises NoTree, NoProgram."""
    check(tree)
    found = gathered(tree)
    for scope in found:
        set_kinds(scope)
    for scope in found:
        pass_frees(scope)
    return found


def told(scope):
    parent = None if scope.around is None else scope.around.number
    return (scope.word, scope.name, scope.path, parent, dict(scope.kinds), tuple(sorted(scope.frees)))


def set_kinds(scope):
    """Set the kinds of the names that a scope binds, uses or declares; the scopes around have theirs already."""
    for name in {**scope.shared, **scope.borrowed, **scope.bound, **scope.used}:
        scope.kinds[name] = kind_of(name, scope)
    for name, line in scope.borrowed.items():
        if owner(name, scope) is None:
            raise NoProgram(line, "unbound")


def kind_of(name, scope):
    """The kind of a name, as far as the scopes inside do not make it a cell."""
    if name in scope.shared:
        return "global"
    if name in scope.borrowed:
        return "free"
    if name in scope.bound:
        return "local"
    return "implicit" if owner(name, scope) is None else "free"


def owner(name, scope):
    """The function scope around whose name this is if a scope only uses it, or None."""
    around = scope.around
    while around is not None:
        if around.is_function():
            kind = around.kinds.get(name)
            if kind == "global":
                return None
            if kind == "local":
                return around
        around = around.around
    return None


def pass_frees(scope):
    """Make the free names of a scope cells where they belong, and free in all scopes between."""
    free = [name for name, kind in scope.kinds.items() if kind == "free"]
    for name in free:
        pass_free(name, scope)


def pass_free(name, scope):
    """Carry a free name outward, to the scope whose name it is; there is one, or it would be unbound."""
    scope.frees[name] = True
    around = scope.around
    while not (around.is_function() and around.kinds.get(name) in ("local", "cell")):
        around.frees[name] = True
        if name not in around.kinds:
            around.kinds[name] = "free"
        around = around.around
    around.kinds[name] = "cell"
    around.cells[name] = True
