"""Writing the rows of statements that have others inside of them, or that leave them.

While the rows of a body are written, what it leaves open is told by the writer's THING: ("while", begin, end),
("for", begin, end), ("guarded") for a Try's body under its handlers, ("handler", name), ("final", finalbody) for all
that lies under a finalbody, ("kept") for a value that is kept under a finalbody, ("failed") for a finalbody behind an
exception, ("with", line).
"""

from codewalk.expressions import write, write_target, write_test
from codewalk.leaving import leave_handler, leave_with, put_exit, put_forgotten, put_popped
from codewalk.shapes import is_constant
from codewalk.simple import write_simple


def write_body(out, body):
    for node in body:
        out.line = node[1]
        action = STATEMENTS.get(node[0])
        if action is None:
            write_simple(out, node)
        else:
            action(out, node)


def write_return(out, node):
    value = node[2]
    keep = not is_constant(value)
    if keep:
        write(out, value)
    else:
        out.put("NOP")
    thing = out.thing
    while thing is not None:
        leave(out, thing, keep)
        thing = thing[3]
    if not keep:
        out.put("LOAD_CONST", value[1])
    out.put("RETURN_VALUE")


def write_break(out, _):
    out.put("NOP")
    thing = leave_inside(out)
    leave(out, thing, False)
    out.put("JUMP", thing[2])


def write_continue(out, _):
    out.put("NOP")
    thing = leave_inside(out)
    out.put("JUMP", thing[1])


def leave_inside(out):
    """Leave all that is open inside of the innermost loop; the thing of this loop."""
    thing = out.thing
    while thing[0] != "while" and thing[0] != "for":
        leave(out, thing, False)
        thing = thing[3]
    return thing


def leave(out, thing, keep):
    """Write the rows that leave an open thing, with or without a value on top that is kept."""
    word, part, _, around = thing
    match word:
        case "for" | "kept":
            put_popped(out, "POP_TOP", keep)
        case "guarded":
            out.put("POP_BLOCK")
        case "handler":
            leave_handler(out, part, keep)
        case "final":
            leave_final(out, part, around, keep)
        case "failed":
            put_popped(out, "POP_TOP", keep)
            put_popped(out, "POP_BLOCK", keep)
            out.put("POP_EXCEPT")
        case "with":
            leave_with(out, part, keep)


def leave_final(out, finalbody, around, keep):
    out.put("POP_BLOCK")
    before = out.thing
    out.thing = around
    if keep:
        out.open_thing("kept")
    write_body(out, finalbody)
    out.thing = before
    # What is still to come of the statement that leaves is artificial.
    out.line = None


def write_if(out, node):
    _, _, test, body, orelse = node
    end = out.label()
    other = out.label() if orelse else end
    write_test(out, test, other, False)
    write_body(out, body)
    if orelse:
        out.put_bare("JUMP", end)
        out.mark(other)
        write_body(out, orelse)
    out.mark(end)


def write_while(out, node):
    _, line, test, body, orelse = node
    start = out.label()
    again = out.label()
    ended = out.label()
    end = out.label()
    out.mark(start)
    write_test(out, test, ended, False)
    out.mark(again)
    out.open_thing("while", start, end)
    write_body(out, body)
    out.close_thing()
    out.line = line
    write_test(out, test, again, True)
    out.mark(ended)
    write_body(out, orelse)
    out.mark(end)


def write_for(out, node):
    _, _, target, value, body, orelse = node
    start = out.label()
    ended = out.label()
    end = out.label()
    write(out, value)
    out.put("GET_ITER")
    out.mark(start)
    out.put("FOR_ITER", ended)
    write_target(out, target)
    out.open_thing("for", start, end)
    write_body(out, body)
    out.close_thing()
    out.put_bare("JUMP", start)
    out.mark(ended)
    out.put_bare("END_FOR")
    out.put_bare("POP_TOP")
    write_body(out, orelse)
    out.mark(end)


def write_try(out, node):
    if not node[5]:
        write_guarded(out, node)
        return
    finalbody = node[5]
    failed = out.label()
    cleanup = out.label()
    end = out.label()
    out.put("SETUP_FINALLY", failed)
    out.open_thing("final", finalbody)
    if node[3]:
        write_guarded(out, node)
    else:
        write_body(out, node[2])
    out.close_thing()
    out.put_bare("POP_BLOCK")
    write_body(out, finalbody)
    out.put_bare("JUMP", end)
    out.mark(failed)
    out.put_bare("SETUP_CLEANUP", cleanup)
    out.put_bare("PUSH_EXC_INFO")
    out.open_thing("failed")
    write_body(out, finalbody)
    out.close_thing()
    out.put_bare("RERAISE", 0)
    put_cleanup(out, cleanup)
    out.mark(end)


def put_cleanup(out, label):
    """Put what an exception comes to that is raised while another one is handled."""
    out.mark(label)
    out.put_bare("COPY", 3)
    out.put_bare("POP_EXCEPT")
    out.put_bare("RERAISE", 1)


def write_guarded(out, node):
    """Write the rows of a Try with handlers, without its finalbody."""
    _, _, body, handlers, orelse, _ = node
    failed = out.label()
    cleanup = out.label()
    end = out.label()
    out.put("SETUP_FINALLY", failed)
    out.open_thing("guarded")
    write_body(out, body)
    out.close_thing()
    out.put_bare("POP_BLOCK")
    write_body(out, orelse)
    out.put_bare("JUMP", end)
    out.mark(failed)
    out.put_bare("SETUP_CLEANUP", cleanup)
    out.put_bare("PUSH_EXC_INFO")
    for handler in handlers:
        write_handler(out, handler, end)
    out.put_bare("RERAISE", 0)
    put_cleanup(out, cleanup)
    out.mark(end)


def write_handler(out, handler, end):
    line, kind, name, body = handler
    out.line = line
    other = out.label()
    if kind is not None:
        write(out, kind)
        out.put("CHECK_EXC_MATCH")
        out.put("POP_JUMP_IF_FALSE", other)
    if name is not None:
        write_named_handler(out, name, body, end)
    else:
        out.put("POP_TOP")
        out.open_thing("handler")
        write_body(out, body)
        out.close_thing()
        out.put_bare("POP_BLOCK")
        out.put_bare("POP_EXCEPT")
        out.put_bare("JUMP", end)
    out.mark(other)


def write_named_handler(out, name, body, end):
    cleanup = out.label()
    out.store(name)
    out.put("SETUP_CLEANUP", cleanup)
    out.open_thing("handler", name)
    write_body(out, body)
    out.close_thing()
    out.line = None
    out.put("POP_BLOCK")
    out.put("POP_BLOCK")
    out.put("POP_EXCEPT")
    put_forgotten(out, name)
    out.put("JUMP", end)
    out.mark(cleanup)
    put_forgotten(out, name)
    out.put("RERAISE", 1)


def write_with(out, node):
    write_items(out, node[2], node[3], node[1])


def write_items(out, items, body, line):
    """Write the rows of a With of these items; the body of the first is the With of the others."""
    value, target = items[0]
    failed = out.label()
    cleanup = out.label()
    end = out.label()
    suppressed = out.label()
    write(out, value)
    out.put("BEFORE_WITH")
    out.put("SETUP_WITH", failed)
    if target is None:
        out.put("POP_TOP")
    else:
        write_target(out, target)
    out.open_thing("with", line)
    if len(items) > 1:
        write_items(out, items[1:], body, line)
    else:
        write_body(out, body)
    out.close_thing()
    out.line = line
    out.put_bare("POP_BLOCK")
    put_exit(out)
    out.put_bare("JUMP", end)
    out.mark(failed)
    out.put("SETUP_CLEANUP", cleanup)
    out.put("PUSH_EXC_INFO")
    out.put("WITH_EXCEPT_START")
    out.put("TO_BOOL")
    out.put("POP_JUMP_IF_TRUE", suppressed)
    out.put("RERAISE", 2)
    put_suppressed(out, suppressed, end)
    put_cleanup(out, cleanup)
    out.mark(end)


def put_suppressed(out, label, end):
    """Put what is done behind a With that has put its exception away."""
    out.mark(label)
    out.put("POP_TOP")
    out.put_bare("POP_BLOCK")
    out.put("POP_EXCEPT")
    out.put("POP_TOP")
    out.put("POP_TOP")
    out.put_bare("JUMP", end)


STATEMENTS = {
    "Return": write_return, "Break": write_break, "Continue": write_continue, "If": write_if, "While": write_while,
    "For": write_for, "Try": write_try, "With": write_with,
}
