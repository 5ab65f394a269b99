"""Code objects made of flowed rows, and of whole programs."""

from codewalk.arguments import ACTIONS, Pool
from codewalk.codes import Code
from codewalk.encoding import (
    CACHES, CELL, FREE, FUNCTION, GENERATOR, NESTED, NUMBERS, PARAMETER_CELL, PLAIN, WITH_MORE, WITH_REST,
)
from codewalk.flow import flowed
from codewalk.generate import cells_of, is_generator, rows_of
from codewalk.layout import Layout
from codewalk.preparing import prepare
from codewalk.scopes import settled
from codewalk.slots import numbers_of, parameters_of
from codewalk.stack import stack_size
from codewalk.tables import exception_bytes, line_bytes


def compiled(tree, passes=True):
    """The code of a program, with those of its scopes among the constants. Raises NoTree, NoProgram."""
    return codes_of(tree, passes)[0]


def codes_of(tree, passes=True):
    """The codes of a program, by the numbers of their scopes. Raises NoTree, NoProgram."""
    scopes = settled(tree)
    prepare(tree, scopes)
    codes = [None] * len(scopes)
    # The scopes inside of one have greater numbers.
    for scope in reversed(scopes):
        head = head_of(scope)
        codes[scope.number] = assembled(flowed(rows_of(scope, scopes), head, passes), head, codes)
    return codes


def head_of(scope):
    """The head of the code of a scope."""
    cells = tuple(sorted(cells_of(scope)))
    frees = tuple(sorted(scope.frees))
    return (scope.word, scope.name, scope.path, scope.line, scope.taken, cells, frees, flags_of(scope))


def flags_of(scope):
    if not scope.is_function():
        return 0
    flags = FUNCTION
    if scope.taken[2] is not None:
        flags |= WITH_REST
    if scope.taken[3] is not None:
        flags |= WITH_MORE
    around = scope.around
    while around is not None and not around.is_function():
        around = around.around
    if around is not None:
        flags |= NESTED
    return flags | GENERATOR if is_generator(scope) else flags


def assembled(rows, head, codes=()):
    """The Code of flowed rows; LOAD_CODE loads one of the codes."""
    word, name, path, line, parameters, _, _, flags = head
    slots = numbers_of(rows, head)
    pool = Pool(slots, codes)
    if word == "function" or word == "lambda":
        pool.constant(None)
    labels = {}
    layout = Layout(instructions_of(rows, pool, labels), labels)
    return Code(
        len(parameters[0]), len(parameters[1]), stack_size(rows), flags, layout.code_bytes(), pool.constants,
        list(pool.names), list(slots), kinds_of(slots, head), name, path, line, line_bytes(line_rows_of(layout), line),
        exception_bytes(exception_rows_of(layout)),
    )


def instructions_of(rows, pool, labels):
    """The instructions of rows, their arguments as numbers; puts into the labels which one each of them leads to."""
    found = []
    for word, argument, line, handler in rows:
        if word == "LABEL":
            labels[argument] = len(found)
            continue
        action = ACTIONS.get(word)
        if action is not None:
            argument = action(pool, argument)
            if word == "LOAD_CODE":
                word = "LOAD_CONST"
            elif word == "LOAD_CLOSURE":
                word = "LOAD_FAST"
        elif argument is None:
            argument = 0
        found.append((word, NUMBERS[word], CACHES.get(word, 0), argument, line, handler))
    return found


def kinds_of(slots, head):
    """The kinds of locals."""
    taken = {name: True for name in parameters_of(head)}
    cells = {name: True for name in head[5]}
    frees = {name: True for name in head[6]}
    found = []
    for name in slots:
        if name in cells:
            found.append(PARAMETER_CELL if name in taken else CELL)
        else:
            found.append(FREE if name in frees else PLAIN)
    return found


def line_rows_of(layout):
    """The rows (begin, end, line) of the line table, in bytes; those of each instruction by itself."""
    found = []
    begin = 0
    for number, instruction in enumerate(layout.instructions):
        end = 2 * layout.begin(number + 1)
        found.append((begin, end, instruction[4]))
        begin = end
    return found


def exception_rows_of(layout):
    """The rows (begin, end, target, depth, bool) of the exception table, in bytes, one for each stretch."""
    found = []
    before = None
    for number, instruction in enumerate([*layout.instructions, (None, None, None, None, None, None)]):
        handler = instruction[5]
        if handler == before:
            continue
        end = 2 * layout.begin(number)
        if before is not None:
            label, depth, wanted = before
            found.append((begin, end, 2 * layout.begin(layout.labels[label]), depth, wanted))
        begin = end
        before = handler
    return found
