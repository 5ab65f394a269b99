"""Changes of programs: what of their codes is another one, and trees that are changed."""

from codewalk.assembly import codes_of
from codewalk.codes import Code, told_constants
from codewalk.errors import NoName, NoNumber
from codewalk.names import is_name
from codewalk.preparing import prepare
from codewalk.rebuilding import Moving, Renaming, rebuilt_row
from codewalk.scopes import settled
from codewalk.trees import check


def changed(one, other):
    """What is another one in the codes of the second tree, as tuples (path, what). Raises NoTree, NoProgram."""
    before = codes_of(one)
    after = codes_of(other)
    # The numbers of the codes of the first tree that belong to none yet, by their paths; the first of them last.
    waiting = {}
    for number in range(len(before) - 1, -1, -1):
        waiting.setdefault(before[number].path, []).append(number)
    kept = {}
    found = []
    for code in after:
        numbers = waiting.get(code.path)
        if numbers:
            number = numbers.pop()
            kept[number] = True
            found.append((code.path, difference(before[number], code)))
        else:
            found.append((code.path, "new"))
    return found + [(code.path, "gone") for number, code in enumerate(before) if number not in kept]


def difference(one, other):
    """The word for what two codes do not have in common."""
    if told_rows(one) != told_rows(other):
        return "rows"
    if told_names(one) != told_names(other):
        return "names"
    return "same" if one.line == other.line and one.lines == other.lines else "lines"


def told_rows(code):
    """What a code has but for names, strings and lines; all codes among its constants are the same here."""
    constants = ["code" if isinstance(constant, Code) else "string" if isinstance(constant, str)
                 else told_constants((constant,)) for constant in code.constants]
    return (code.argcount, code.onlycount, code.stacksize, code.flags, code.code, code.kinds, code.handlers, constants)


def told_names(code):
    strings = [constant for constant in code.constants if isinstance(constant, str)]
    return (code.names, code.slots, code.name, code.path, strings)


def moved(tree, line, more):
    """The tree with all lines from one on greater by a number. Raises NoTree, NoNumber."""
    check(tree)
    if not isinstance(more, int) or isinstance(more, bool) or more < 0:
        raise NoNumber(more)
    return rebuilt_row(Moving(line, more), tree)


def renamed(tree, number, name, other):
    """The tree with another name for a local of a scope. Raises NoTree, NoProgram, NoNumber, NoName."""
    scopes = settled(tree)
    prepare(tree, scopes)
    if not isinstance(number, int) or isinstance(number, bool) or not 0 <= number < len(scopes):
        raise NoNumber(number)
    scope = scopes[number]
    if not scope.is_function():
        raise NoNumber(number)
    if not isinstance(name, str) or scope.kinds.get(name) != "local" or name in scope.parameters:
        raise NoName(name)
    if not is_name(other) or any([other in near.kinds for near in scopes if is_near(near, scope)]):
        raise NoName(other)
    return rebuilt_row(Renaming(number, name, other), tree)


def is_near(scope, other):
    """Whether one of two scopes is inside of the other one, or they are one scope."""
    return is_inside(scope, other.number) or is_inside(other, scope.number)


def is_inside(scope, number):
    """Whether a scope has a number, or is inside of the one that has it."""
    while scope is not None and scope.number != number:
        scope = scope.around
    return scope is not None
