"""What instructions do with the names, the control and the exceptions of a frame.

An ACTION takes the machine, the frame and the argument made ready; the frame stops if it returns True.
"""

from codewalk.effects import Null
from codewalk.going import next_of, sent
from codewalk.plain import plain
from codewalk.values import Cell, ENDED, Function, NEW, Nothing, RESTS, Raised


def load_fast(machine, frame, argument):
    frame.stack.append(frame.locals[argument])


def load_fast_check(machine, frame, argument):
    value = frame.locals[argument]
    if isinstance(value, Nothing):
        machine.fail("UnboundLocalError")
    frame.stack.append(value)


def store_fast(machine, frame, argument):
    frame.locals[argument] = frame.stack.pop()


def delete_fast(machine, frame, argument):
    if isinstance(frame.locals[argument], Nothing):
        machine.fail("UnboundLocalError")
    frame.locals[argument] = Nothing()


def load_two(machine, frame, argument):
    frame.stack.extend([frame.locals[argument[0]], frame.locals[argument[1]]])


def store_and_load(machine, frame, argument):
    frame.locals[argument[0]] = frame.stack.pop()
    frame.stack.append(frame.locals[argument[1]])


def store_two(machine, frame, argument):
    frame.locals[argument[0]] = frame.stack.pop()
    frame.locals[argument[1]] = frame.stack.pop()


def make_cell(machine, frame, argument):
    frame.locals[argument] = Cell(frame.locals[argument])


def copy_cells(machine, frame, argument):
    frame.locals[len(frame.locals) - argument:] = frame.cells


def load_deref(machine, frame, argument):
    frame.stack.append(content_of(machine, frame, argument))


def content_of(machine, frame, argument):
    """What a cell has; the argument tells what is raised if there is nothing, too."""
    slot, wrong = argument
    value = frame.locals[slot].content
    if isinstance(value, Nothing):
        machine.fail(wrong)
    return value


def store_deref(machine, frame, argument):
    cell = frame.locals[argument[0]]
    cell.content = frame.stack.pop()


def delete_deref(machine, frame, argument):
    content_of(machine, frame, argument)
    cell = frame.locals[argument[0]]
    cell.content = Nothing()


def load_locals(machine, frame, argument):
    frame.stack.append(frame.names)


def load_from_names(machine, frame, argument):
    names = frame.stack.pop()
    name = frame.plan.code.slots[argument[0]]
    frame.stack.append(names[name] if name in names else content_of(machine, frame, argument))


def load_name(machine, frame, argument):
    value = frame.names[argument] if argument in frame.names else machine.global_of(argument)
    frame.stack.append(value)


def store_name(machine, frame, argument):
    frame.names[argument] = frame.stack.pop()


def delete_name(machine, frame, argument):
    machine.delete_from(frame.names, argument)


def load_global(machine, frame, argument):
    name, more = argument
    frame.stack.append(machine.global_of(name))
    if more:
        frame.stack.append(Null())


def store_global(machine, frame, argument):
    machine.shared[argument] = frame.stack.pop()


def delete_global(machine, frame, argument):
    machine.delete_from(machine.shared, argument)


def make_function(machine, frame, argument):
    frame.stack.append(Function(frame.stack.pop()))


def set_attribute(machine, frame, argument):
    """Give the function on top its defaults, its keyword defaults or its cells."""
    function = frame.stack.pop()
    value = frame.stack.pop()
    if argument == 1:
        function.defaults = value
    elif argument == 2:
        function.onlydefaults = {key: held for key, held in value.pairs.values()}
    else:
        function.cells = value
    frame.stack.append(function)


def jump(machine, frame, argument):
    frame.at = argument


def jump_backward(machine, frame, argument):
    target, tells = argument
    frame.at = target
    if tells:
        # Its line is told once more.
        frame.told = None


def jump_if_false(machine, frame, argument):
    if not frame.stack.pop():
        frame.at = argument


def jump_if_true(machine, frame, argument):
    if frame.stack.pop():
        frame.at = argument


def jump_if_none(machine, frame, argument):
    if frame.stack.pop() is None:
        frame.at = argument


def jump_if_not_none(machine, frame, argument):
    if frame.stack.pop() is not None:
        frame.at = argument


def turn(machine, frame, argument):
    found = next_of(machine, frame.stack[-1])
    if found:
        frame.stack.append(found[0])
    else:
        frame.stack.append(Null())
        frame.at = argument


def send(machine, frame, argument):
    value = frame.stack.pop()
    resting, found = sent(machine, frame.stack[-1], value)
    frame.stack.append(found)
    if not resting:
        frame.at = argument


def end_send(machine, frame, argument):
    value = frame.stack.pop()
    frame.stack[-1] = value


def make_generator(machine, frame, argument):
    frame.state = NEW
    return True


def give(machine, frame, argument):
    """Rest with what is yielded."""
    frame.value = frame.stack.pop()
    frame.state = RESTS
    # What throw would go to first.
    frame.delegates = argument == 1
    machine.put(("yield", plain(frame.value)))
    return True


def give_back(machine, frame, argument):
    frame.stack.append(argument)
    return end(machine, frame, argument)


def end(machine, frame, argument):
    frame.value = frame.stack.pop()
    frame.state = ENDED
    machine.put(("return", plain(frame.value)))
    return True


def throw(machine, frame, argument):
    """Raise the handled exception again, or what is given."""
    if argument == 0:
        raise Raised(machine.fault_again())
    given = [frame.stack.pop() for _ in range(argument)]
    machine.throw_given(given[-1], given[:-1])


def throw_again(machine, frame, argument):
    raise Raised(frame.stack.pop())


def end_throw(machine, frame, argument):
    """Leave the value of a StopIteration that came out of what is yielded from."""
    fault = frame.stack.pop()
    if not machine.is_stop(fault):
        raise Raised(fault)
    del frame.stack[-1]
    frame.stack[-1:] = [None, machine.value_of_stop(fault)]


def catch(machine, frame, argument):
    kinds = frame.stack.pop()
    frame.stack.append(machine.is_caught(frame.stack[-1], kinds))


def push_handled(machine, frame, argument):
    fault = frame.stack.pop()
    handled = machine.handled
    frame.stack.extend([handled.fault, fault])
    handled.fault = fault


def pop_handled(machine, frame, argument):
    handled = machine.handled
    handled.fault = frame.stack.pop()


def enter_context(machine, frame, argument):
    frame.stack.extend(machine.entered(frame.stack.pop()))


def start_exit(machine, frame, argument):
    fault = frame.stack[-1]
    frame.stack.append(machine.call(frame.stack[-4], [fault.shape, fault, None]))
