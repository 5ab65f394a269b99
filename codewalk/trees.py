"""Which trees are programs. What a LOOK function is, `looking.py` tells."""

from codewalk.errors import NoTree
from codewalk.looking import are_tuples, has_names, is_named, look_through
from codewalk.nodes import (
    OPERATORS, look_at_deletion, look_at_expression, look_at_parameters, look_at_row, look_at_single, look_at_target,
)

LAST_LINE = 1000000


def check(tree):
    """Raise NoTree with the place of the first node that is wrong, if there is one."""
    wrong = look_through(look_at_tree, tree)
    if wrong is not None:
        raise NoTree(tuple(reversed(wrong)))


def look_at_tree(tree, look, room):
    if not isinstance(tree, (list, tuple)) or len(tree) == 0:
        return []
    wrong = look_at_body(tree, look, room, 0)
    # The row of the tree has no index.
    return None if wrong is None else wrong[:-1]


def look_at_body(row, look, room, at):
    """Look at the statements of a row, which has this index in its node."""
    for k, node in enumerate(row):
        if not isinstance(node, tuple) or len(node) < 2 or not isinstance(node[0], str):
            return [k, at]
        action = STATEMENTS.get(node[0])
        line = node[1]
        if action is None or not isinstance(line, int) or isinstance(line, bool) or not look.line < line <= LAST_LINE:
            return [k, at]
        look.line = line
        wrong = action(node, look, room - 1) if room else look.put_off(action, node)
        if wrong is not None:
            wrong.extend([k, at])
            return wrong
    return None


def are_bodies(body, orelse):
    """Whether two objects are a row of at least one statement and a row of any number, as far as rows go."""
    return isinstance(body, (list, tuple)) and isinstance(orelse, (list, tuple)) and len(body) > 0


def look_at_bodies(node, look, room, at):
    """Look at the statements of a body with this index, and those of the orelse behind it."""
    wrong = look_at_body(node[at], look, room, at)
    if wrong is not None or not node[at + 1]:
        return wrong
    return look_at_body(node[at + 1], look, room, at + 1)


def look_at_nothing(node, look, room):
    return None if len(node) == 2 else []


def look_at_expr(node, look, room):
    if len(node) != 3:
        return []
    wrong = look_at_expression(node[2], look, room)
    if wrong is not None:
        wrong.append(2)
    return wrong


def look_at_return(node, look, room):
    return None if len(node) == 3 and node[2] is None else look_at_expr(node, look, room)


def look_at_targets(row, look, room, look_at):
    """Look at the row of at least one target of an Assign or a Delete."""
    for k, target in enumerate(row):
        wrong = look_at(target, look, room)
        if wrong is not None:
            wrong.extend([k, 2])
            return wrong
    return None


def look_at_assign(node, look, room):
    if len(node) != 4 or not isinstance(node[2], (list, tuple)) or len(node[2]) == 0:
        return []
    wrong = look_at_targets(node[2], look, room, look_at_target)
    if wrong is not None:
        return wrong
    wrong = look_at_expression(node[3], look, room)
    if wrong is not None:
        wrong.append(3)
    return wrong


def look_at_delete(node, look, room):
    if len(node) != 3 or not isinstance(node[2], (list, tuple)) or len(node[2]) == 0:
        return []
    return look_at_targets(node[2], look, room, look_at_deletion)


def look_at_assign_in_place(node, look, room):
    if len(node) != 5 or not isinstance(node[3], str) or node[3] not in OPERATORS:
        return []
    wrong = look_at_single(node[2], look, room)
    if wrong is not None:
        wrong.append(2)
        return wrong
    wrong = look_at_expression(node[4], look, room)
    if wrong is not None:
        wrong.append(4)
    return wrong


def look_at_raise(node, look, room):
    if len(node) != 4 or (node[2] is None and node[3] is not None):
        return []
    for at in (2, 3):
        wrong = None if node[at] is None else look_at_expression(node[at], look, room)
        if wrong is not None:
            wrong.append(at)
            return wrong
    return None


def look_at_assert(node, look, room):
    if len(node) != 4:
        return []
    wrong = look_at_expression(node[2], look, room)
    if wrong is not None:
        wrong.append(2)
        return wrong
    wrong = None if node[3] is None else look_at_expression(node[3], look, room)
    if wrong is not None:
        wrong.append(3)
    return wrong


def look_at_declaration(node, look, room):
    return None if len(node) == 3 and has_names(node[2], look) and len(node[2]) > 0 else []


def look_at_branches(node, look, room):
    """Look at an If or a While."""
    if len(node) != 5 or not are_bodies(node[3], node[4]):
        return []
    wrong = look_at_expression(node[2], look, room)
    if wrong is not None:
        wrong.append(2)
        return wrong
    return look_at_bodies(node, look, room, 3)


def look_at_for(node, look, room):
    if len(node) != 6 or not are_bodies(node[4], node[5]):
        return []
    wrong = look_at_target(node[2], look, room)
    if wrong is not None:
        wrong.append(2)
        return wrong
    wrong = look_at_expression(node[3], look, room)
    if wrong is not None:
        wrong.append(3)
        return wrong
    return look_at_bodies(node, look, room, 4)


def look_at_try(node, look, room):
    if len(node) != 6:
        return []
    _, _, body, handlers, orelse, finalbody = node
    if not are_tuples(handlers, 4) or not are_bodies(body, orelse) or not isinstance(finalbody, (list, tuple)):
        return []
    if len(handlers) == 0 and (len(orelse) > 0 or len(finalbody) == 0):
        return []
    wrong = look_at_body(body, look, room, 2)
    if wrong is not None:
        return wrong
    for k, handler in enumerate(handlers):
        wrong = look_at_handler(handler, look, room)
        if wrong is not None:
            wrong.extend([k, 3])
            return wrong
    return look_at_bodies(node, look, room, 4)


def look_at_handler(handler, look, room):
    line, kind, name, body = handler
    if not isinstance(line, int) or isinstance(line, bool) or not look.line < line <= LAST_LINE:
        return []
    look.line = line
    if not isinstance(body, (list, tuple)) or len(body) == 0:
        return []
    if name is not None and (kind is None or not is_named(name, look)):
        return []
    wrong = None if kind is None else look_at_expression(kind, look, room)
    if wrong is not None:
        wrong.append(1)
        return wrong
    return look_at_body(body, look, room, 3)


def look_at_with(node, look, room):
    if len(node) != 4 or not are_tuples(node[2], 2) or len(node[2]) == 0 or not are_bodies(node[3], ()):
        return []
    for k, (value, target) in enumerate(node[2]):
        wrong = look_at_expression(value, look, room)
        if wrong is not None:
            wrong.extend([0, k, 2])
            return wrong
        wrong = None if target is None else look_at_target(target, look, room)
        if wrong is not None:
            wrong.extend([1, k, 2])
            return wrong
    return look_at_body(node[3], look, room, 3)


def look_at_function(node, look, room):
    if len(node) != 6 or not is_named(node[2], look) or not isinstance(node[3], tuple) or len(node[3]) != 6:
        return []
    if not are_bodies(node[4], node[5]):
        return []
    wrong = look_at_parameters(node[3], look, room)
    if wrong is not None:
        wrong.append(3)
        return wrong
    wrong = look_at_body(node[4], look, room, 4)
    return look_at_row(node[5], look, room, 5) if wrong is None and node[5] else wrong


def look_at_class(node, look, room):
    if len(node) != 6 or not is_named(node[2], look) or not isinstance(node[3], (list, tuple)):
        return []
    if not are_bodies(node[4], node[5]):
        return []
    wrong = look_at_row(node[3], look, room, 3)
    if wrong is not None:
        return wrong
    wrong = look_at_body(node[4], look, room, 4)
    return look_at_row(node[5], look, room, 5) if wrong is None and node[5] else wrong


STATEMENTS = {
    "Expr": look_at_expr, "Assign": look_at_assign, "AugAssign": look_at_assign_in_place, "Delete": look_at_delete,
    "Pass": look_at_nothing, "Break": look_at_nothing, "Continue": look_at_nothing, "Return": look_at_return,
    "Raise": look_at_raise, "Assert": look_at_assert, "Global": look_at_declaration, "Nonlocal": look_at_declaration,
    "If": look_at_branches, "While": look_at_branches, "For": look_at_for, "Try": look_at_try, "With": look_at_with,
    "Function": look_at_function, "Class": look_at_class,
}
