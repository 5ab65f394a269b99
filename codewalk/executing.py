"""How the walker executes statements.

Where a scope never rests in the midst of expressions, these are mostly evaluated at once, and otherwise by tasks.
"""

from codewalk.arithmetic import operate
from codewalk.assigning import assign, assign_in_place, remove
from codewalk.blocks import Context, Final, Guarded, Loop, end_block, fail, leave
from codewalk.calling import make_class
from codewalk.direct import function_at_once, run_down, truth_of, value_of, values_of
from codewalk.evaluating import all_of, function_of, test, to
from codewalk.going import iterator_of, next_of
from codewalk.outlines import load, push, store
from codewalk.results import call_on_top, make_function, store_name
from codewalk.shapes import are_names, is_constant
from codewalk.stacks import copy_entry, cut_off, get_iterator, pop_top


def body_of(row):
    """The tasks that execute statements."""
    return [(execute_from, (row, 0))] if row else []


def push_body(frame, row):
    """Put the tasks that execute statements there."""
    if row:
        frame.tasks.append((execute_from, (row, 0)))


def execute_from(walker, frame, part):
    """Execute the statements of a row from an index on, up to one that may lead elsewhere or rest."""
    row, at = part
    tasks = frame.tasks
    many = len(tasks)
    yields = frame.plan.yields
    while at < len(row):
        node = row[at]
        at += 1
        action = STATEMENTS[node[0]]
        if yields or node[0] not in LEADING_ON:
            if at < len(row):
                tasks.append((execute_from, (row, at)))
            action(walker, frame, node)
            return
        action(walker, frame, node)
        if len(tasks) > many:
            run_down(walker, frame, many)


def execute_expr(walker, frame, node):
    _, line, value = node
    walker.tell(frame, line)
    if value[0] == "Constant":
        return
    if frame.plan.yields:
        push(frame, [to(value), (pop_top, None)])
    else:
        value_of(walker, frame, value)


def execute_assign(walker, frame, node):
    _, line, targets, value = node
    walker.tell(frame, line)
    if frame.plan.yields:
        push(frame, [to(value), *storing(targets)])
        return
    found = value_of(walker, frame, value)
    if are_names(targets):
        for target in targets:
            store(walker, frame, target[1], found)
    else:
        frame.stack.append(found)
        push(frame, storing(targets))


def storing(targets):
    """The tasks that store the top of the stack into targets."""
    tasks = []
    for target in targets[:-1]:
        tasks.extend([(copy_entry, 1), (assign, target)])
    return [*tasks, (assign, targets[-1])]


def execute_in_place(walker, frame, node):
    _, line, target, op, value = node
    walker.tell(frame, line)
    if frame.plan.yields or target[0] != "Name":
        assign_in_place(walker, frame, node)
        return
    left = load(walker, frame, target[1])
    found = operate(walker, op + "=", left, value_of(walker, frame, value))
    store(walker, frame, target[1], found)


def execute_delete(walker, frame, node):
    walker.tell(frame, node[1])
    push(frame, [(remove, target) for target in node[2]])


def execute_nothing(walker, frame, node):
    walker.tell(frame, node[1])


def execute_return(walker, frame, node):
    _, line, value = node
    walker.tell(frame, line)
    if frame.plan.yields and not is_constant(value):
        push(frame, [to(value), (give_back, None)])
    else:
        leave(walker, frame, ("return", value_of(walker, frame, value)))


def give_back(walker, frame, part):
    leave(walker, frame, ("return", frame.stack.pop()))


def execute_break(walker, frame, node):
    walker.tell(frame, node[1])
    leave(walker, frame, ("break", None))


def execute_continue(walker, frame, node):
    walker.tell(frame, node[1])
    leave(walker, frame, ("continue", None))


def execute_raise(walker, frame, node):
    walker.tell(frame, node[1])
    given = [value for value in node[2:] if value is not None]
    if not given:
        # What is raised again leaves no trace here.
        fail(walker, frame, walker.fault_again())
    elif frame.plan.yields:
        push(frame, [*all_of(given), (throw, len(given))])
    else:
        value, *causes = values_of(walker, frame, given)
        walker.throw_given(value, causes)


def throw(walker, frame, many):
    """Raise what is given, with a cause on top of it if there are two values."""
    given = [frame.stack.pop() for _ in range(many)]
    walker.throw_given(given[-1], given[:-1])


def execute_assert(walker, frame, node):
    _, line, tested, message = node
    walker.tell(frame, line)
    if frame.plan.yields:
        push(frame, [test(tested), (claim, message)])
    elif not truth_of(walker, frame, tested):
        fail_claim(walker, frame, message)


def claim(walker, frame, message):
    if not frame.stack.pop():
        fail_claim(walker, frame, message)


def fail_claim(walker, frame, message):
    frame.stack.append(walker.named["AssertionError"])
    push(frame, [(throw, 1)] if message is None else [to(message), (call_on_top, None), (throw, 1)])


def execute_if(walker, frame, node):
    walker.tell(frame, node[1])
    if frame.plan.yields:
        push(frame, [test(node[2]), (branch, node)])
    else:
        push_body(frame, node[3] if truth_of(walker, frame, node[2]) else node[4])


def branch(walker, frame, node):
    push_body(frame, node[3] if frame.stack.pop() else node[4])


def execute_while(walker, frame, node):
    walker.tell(frame, node[1])
    if frame.plan.yields:
        push(frame, [test(node[2]), (repeat, node)])
    else:
        begin_turn(frame, node, truth_of(walker, frame, node[2]))


def repeat(walker, frame, node):
    begin_turn(frame, node, frame.stack.pop())


def begin_turn(frame, node, goes_on):
    """Begin a turn of a While, or its orelse."""
    if goes_on:
        frame.tasks.append((end_block, Loop(frame, (execute_while, node), 0)))
    push_body(frame, node[3] if goes_on else node[4])


def execute_for(walker, frame, node):
    walker.tell(frame, node[1])
    if frame.plan.yields:
        push(frame, [to(node[3]), (get_iterator, None), (turn, node)])
    else:
        frame.stack.append(iterator_of(walker, value_of(walker, frame, node[3])))
        frame.tasks.append((turn, node))


def turn(walker, frame, node):
    """Begin a turn of a For, whose iterator is on top."""
    _, line, target, _, body, orelse = node
    walker.tell(frame, line)
    found = next_of(walker, frame.stack[-1])
    if not found:
        frame.stack.pop()
        push_body(frame, orelse)
        return
    frame.tasks.append((end_block, Loop(frame, (turn, node), 1)))
    push_body(frame, body)
    if target[0] == "Name":
        store(walker, frame, target[1], found[0])
    else:
        frame.tasks.append((assign, target))
        frame.stack.append(found[0])


def execute_try(walker, frame, node):
    _, line, body, handlers, orelse, finalbody = node
    walker.tell(frame, line)
    tasks = body_of(body)
    if handlers:
        tasks.append((end_block, Guarded(frame, body_of(orelse), (look_at_handler, (handlers, 0)))))
    if finalbody:
        tasks.append((end_block, Final(frame, body_of(finalbody))))
    push(frame, tasks)


def look_at_handler(walker, frame, part):
    """Look whether a handler is for the exception that is handled."""
    handlers, at = part
    if at == len(handlers):
        fail(walker, frame, walker.handled.fault)
        return
    line, kind, _, _ = handlers[at]
    walker.tell(frame, line)
    if kind is None:
        enter_handler(walker, frame, handlers[at])
    else:
        push(frame, [to(kind), (look_whether_caught, part)])


def look_whether_caught(walker, frame, part):
    handlers, at = part
    if walker.is_caught(walker.handled.fault, frame.stack.pop()):
        enter_handler(walker, frame, handlers[at])
    else:
        push(frame, [(look_at_handler, (handlers, at + 1))])


def enter_handler(walker, frame, handler):
    _, _, name, body = handler
    if name is not None:
        store(walker, frame, name, walker.handled.fault)
        # The next task is the end of what handles the exception.
        _, handling = frame.tasks[-1]
        handling.name = name
    push(frame, body_of(body))


def execute_with(walker, frame, node):
    _, line, items, body = node
    walker.tell(frame, line)
    push(frame, [to(items[0][0]), (enter, (items, 0, line, body))])


def enter(walker, frame, part):
    """Enter the context on top, and go on with the next item or the body."""
    items, at, line, body = part
    leave_method, value = walker.entered(frame.stack.pop())
    frame.stack.append(leave_method)
    block = Context(frame, line)
    frame.stack.append(value)
    target = items[at][1]
    tasks = [(pop_top, None) if target is None else (assign, target)]
    if at + 1 < len(items):
        tasks.extend([to(items[at + 1][0]), (enter, (items, at + 1, line, body))])
    else:
        tasks.extend(body_of(body))
    push(frame, [*tasks, (end_block, block)])


def execute_function(walker, frame, node):
    _, line, name, parameters, decorators, number = node
    walker.tell(frame, line)
    if frame.plan.yields:
        push(frame, [*all_of(decorators), *function_of(parameters, number), *stored(name, decorators)])
        return
    around = values_of(walker, frame, decorators)
    found = function_at_once(walker, frame, parameters, number)
    for decorator in reversed(around):
        found = walker.call(decorator, [found])
    store(walker, frame, name, found)


def stored(name, decorators):
    """The tasks that call decorators below what they decorate, and store it."""
    return [(call_on_top, None)] * len(decorators) + [(store_name, name)]


def execute_class(walker, frame, node):
    _, line, name, bases, decorators, number = node
    walker.tell(frame, line)
    made = [(make_function, (number, 0, ())), *all_of(bases), (build, (name, len(bases)))]
    push(frame, [*all_of(decorators), *made, *stored(name, decorators)])


def build(walker, frame, part):
    """Make a class of the function of its body, which lies below its bases."""
    name, many = part
    body, *bases = cut_off(frame.stack, many + 1)
    frame.stack.append(make_class(walker, None, [body, name, *bases]))


# The statements behind which the next one is always executed, if there is no exception.
LEADING_ON = {
    "Expr": True, "Assign": True, "AugAssign": True, "Delete": True, "Pass": True, "Assert": True, "Global": True,
    "Nonlocal": True, "Function": True, "Class": True,
}

STATEMENTS = {
    "Expr": execute_expr, "Assign": execute_assign, "AugAssign": execute_in_place, "Delete": execute_delete,
    "Pass": execute_nothing, "Break": execute_break, "Continue": execute_continue, "Return": execute_return,
    "Raise": execute_raise, "Assert": execute_assert, "Global": execute_nothing, "Nonlocal": execute_nothing,
    "If": execute_if, "While": execute_while, "For": execute_for, "Try": execute_try, "With": execute_with,
    "Function": execute_function, "Class": execute_class,
}
