"""Writing the rows of statements that have no others inside of them, or only in a scope of their own."""

from codewalk.expressions import write, write_function, write_place, write_row, write_target, write_test
from codewalk.shapes import has_slice, is_constant


def write_simple(out, node):
    action = STATEMENTS[node[0]]
    action(out, node)


def write_expr(out, node):
    if is_constant(node[2]):
        out.put("NOP")
    else:
        write(out, node[2])
        out.put("POP_TOP")


def write_assign(out, node):
    _, _, targets, value = node
    write(out, value)
    for target in targets[:-1]:
        out.put("COPY", 1)
        write_target(out, target)
    write_target(out, targets[-1])


def write_in_place(out, node):
    _, _, target, op, value = node
    if target[0] == "Name":
        out.load(target[1])
        write(out, value)
        out.put("BINARY_OP", op + "=")
        out.store(target[1])
    elif target[0] == "Attribute":
        write(out, target[1])
        out.put("COPY", 1)
        out.put("LOAD_ATTR", (target[2], False))
        write(out, value)
        out.put("BINARY_OP", op + "=")
        out.put("SWAP", 2)
        out.put("STORE_ATTR", target[2])
    else:
        write_subscript_in_place(out, target, op, value)


def write_subscript_in_place(out, target, op, value):
    # So many entries tell the place; each of them is wanted twice.
    many = 3 if has_slice(target) else 2
    write_place(out, target)
    for _ in range(many):
        out.put("COPY", many)
    out.put("BINARY_SLICE" if has_slice(target) else "BINARY_SUBSCR")
    write(out, value)
    out.put("BINARY_OP", op + "=")
    for depth in range(many + 1, 1, -1):
        out.put("SWAP", depth)
    out.put("STORE_SLICE" if has_slice(target) else "STORE_SUBSCR")


def write_delete(out, node):
    for target in node[2]:
        if target[0] == "Name":
            out.delete(target[1])
        elif target[0] == "Attribute":
            write(out, target[1])
            out.put("DELETE_ATTR", target[2])
        else:
            write_place(out, target)
            out.put("DELETE_SUBSCR")


def write_nothing(out, _):
    out.put("NOP")


def write_raise(out, node):
    given = [value for value in node[2:] if value is not None]
    write_row(out, given)
    out.put("RAISE_VARARGS", len(given))


def write_assert(out, node):
    end = out.label()
    write_test(out, node[2], end, True)
    out.put("LOAD_ASSERTION_ERROR")
    if node[3] is not None:
        write(out, node[3])
        out.put("CALL", 0)
    out.put("RAISE_VARARGS", 1)
    out.mark(end)


def write_definition(out, node):
    _, _, name, parameters, decorators, number = node
    write_row(out, decorators)
    write_function(out, parameters, number)
    put_decorated(out, name, decorators)


def put_decorated(out, name, decorators):
    for _ in decorators:
        out.put("CALL", 0)
    out.store(name)


def write_class(out, node):
    _, _, name, bases, decorators, number = node
    write_row(out, decorators)
    out.put("LOAD_BUILD_CLASS")
    out.put("PUSH_NULL")
    out.make(number)
    out.put("LOAD_CONST", name)
    write_row(out, bases)
    out.put("CALL", len(bases) + 2)
    put_decorated(out, name, decorators)


STATEMENTS = {
    "Expr": write_expr, "Assign": write_assign, "AugAssign": write_in_place, "Delete": write_delete,
    "Pass": write_nothing, "Raise": write_raise, "Assert": write_assert, "Global": write_nothing,
    "Nonlocal": write_nothing, "Function": write_definition, "Class": write_class,
}
