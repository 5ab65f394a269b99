"""Which trees are programs."""

from codewalk.errors import NoTree
from codewalk.forms import as_statement

LAST_LINE = 1000000


def check(tree):
    """Raise NoTree with the place of the first node that is wrong, if there is one."""
    if not isinstance(tree, (list, tuple)) or len(tree) == 0:
        raise NoTree(())
    line = 0
    # A stack, the next node last. The place of a node is linked: that of what has it, and one more index.
    waiting = [(as_statement(tree[at]), tree[at], None, at) for at in range(len(tree) - 1, -1, -1)]
    while waiting:
        form, node, around, step = waiting.pop()
        if not form or len(node) != form[0]:
            raise NoTree(place_of(around, step))
        _, line_at, parts, agreement, inner = form
        if line_at is not None:
            if not is_line(node[line_at], line):
                raise NoTree(place_of(around, step))
            line = node[line_at]
        for at, fits in parts:
            if not fits(node[at]):
                raise NoTree(place_of(around, step))
        if inner and not put_inside(node, inner, (around, step), waiting):
            raise NoTree(place_of(around, step))
        # Behind the rows, since it takes their lengths.
        if agreement is not None and not agreement(node):
            raise NoTree(place_of(around, step))


def is_line(part, line):
    """Whether a part is a line behind another one."""
    return isinstance(part, int) and not isinstance(part, bool) and line < part <= LAST_LINE


def put_inside(node, inner, place, waiting):
    """Put the nodes inside of one on the stack, as far as they need a look; tell whether all rows of them are right."""
    for at, least, find in inner:
        part = node[at]
        if least is None:
            form = find(part)
            if form is not None:
                waiting.append((form, part, place, at))
            continue
        if not isinstance(part, (list, tuple)) or len(part) < least:
            return False
        row = (place, at)
        k = len(part)
        while k:
            k -= 1
            form = find(part[k])
            if form is not None:
                waiting.append((form, part[k], row, k))
    return True


def place_of(around, step):
    """The indexes that lead to a node."""
    steps = [step]
    while around is not None:
        around, step = around
        steps.append(step)
    return tuple(reversed(steps))
