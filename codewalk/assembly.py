"""Code objects made of flowed rows, and of whole programs."""

from codewalk.arguments import Draft, FORMS, of_constant
from codewalk.codes import Code, Known
from codewalk.encoding import CELL, FREE, PARAMETER_CELL, PLAIN
from codewalk.flow import flowed
from codewalk.generate import rows_of
from codewalk.layout import extension_of, put_distances
from codewalk.preparing import prepare
from codewalk.scopes import settled
from codewalk.slots import numbers_of, parameters_of
from codewalk.stack import size_in_order, stack_size
from codewalk.tables import exception_bytes, line_entries


def compiled(tree, passes=True):
    """The code of a program, with those of its scopes among the constants. Raises NoTree, NoProgram."""
    return codes_of(tree, passes)[0]


def codes_of(tree, passes=True):
    """The codes of a program, by the numbers of their scopes. Raises NoTree, NoProgram."""
    scopes = settled(tree)
    prepare(tree, scopes)
    heads = [head_of(scope) for scope in scopes]
    written = [rows_of(scope, scopes) for scope in scopes]
    flows = [flowed(rows, head, passes) for rows, head in zip(written, heads)]
    codes = [None] * len(scopes)
    # The scopes inside of one have greater numbers.
    for number in range(len(scopes) - 1, -1, -1):
        codes[number] = assembled(flows[number], heads[number], codes)
    return codes


def head_of(scope):
    """The head of the code of a scope."""
    cells = tuple(sorted(scope.cells))
    frees = tuple(sorted(scope.frees))
    return (scope.word, scope.name, scope.path, scope.line, scope.taken, cells, frees, scope.flags)


def assembled(rows, head, codes=()):
    """The Code of flowed rows; LOAD_CODE loads one of the codes."""
    word, name, path, line, parameters, _, _, flags = head
    # Only those of cells and free names are not known before all rows are.
    slots = numbers_of(rows if head[5] or head[6] else (), head)
    draft = Draft(slots, codes)
    if word == "function" or word == "lambda":
        of_constant(draft, None)
    draw(draft, rows)
    if draft.jumps:
        put_distances(draft)
    lines = line_entries(draft.lines, line)
    handlers = exception_bytes(exception_rows_of(draft)) if draft.handlers else []
    size = stack_size(rows) if draft.labels else size_in_order(rows)
    return Code(
        len(parameters[0]), len(parameters[1]), size, flags, Known(draft.data), draft.constants,
        list(draft.names), list(slots), Known(kinds_of(slots, head)), name, path, line, Known(lines), Known(handlers),
    )


def draw(draft, rows):
    """Put the instructions of rows into a draft."""
    data = draft.data
    told = guard = None
    # Where the lines and the handlers begin that are there now.
    begin = entered = 0
    for word, argument, line, handler in rows:
        if word == "LABEL":
            draft.labels[argument] = len(data)
            continue
        if line != told:
            if len(data) > begin:
                draft.lines.append((begin, len(data), told))
            begin = len(data)
            told = line
        if handler != guard:
            if guard is not None:
                draft.handlers.append((entered, len(data), guard))
            entered = len(data)
            guard = handler
        number, tail, action = FORMS[word]
        if action is not None:
            argument = action(draft, argument)
        elif argument is None:
            argument = 0
        if argument > 255:
            data.extend(extension_of(argument))
            argument &= 255
        data.append(number)
        data.append(argument)
        if tail:
            data.extend(tail)
    draft.lines.append((begin, len(data), told))
    if guard is not None:
        draft.handlers.append((entered, len(data), guard))


def kinds_of(slots, head):
    """The kinds of locals."""
    cells, frees = head[5], head[6]
    if not cells and not frees:
        return [PLAIN] * len(slots)
    kinds = {name: FREE for name in frees}
    for name in cells:
        kinds[name] = CELL
    for name in parameters_of(head):
        if kinds.get(name) == CELL:
            kinds[name] = PARAMETER_CELL
    return [kinds.get(name, PLAIN) for name in slots]


def exception_rows_of(draft):
    """The rows (begin, end, target, depth, bool) of the exception table, in bytes, one for each stretch."""
    return [(begin, end, draft.labels[label], depth, wanted) for begin, end, (label, depth, wanted) in draft.handlers]
