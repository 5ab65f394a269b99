"""What is open around the tasks of the walker, and what becomes of it when control goes out of it."""

from codewalk.comparing import truth
from codewalk.going import sent
from codewalk.outlines import delete, push, store
from codewalk.plain import plain
from codewalk.values import RESTS


class Block:
    """Something open: the part of a task. The stack is cut to its depth when control goes out of it, but at its end.

    - `ended(walker, frame)` is done when control comes to its end;
    - `left(walker, frame, word, value)` when a Return (of a value), Break or Continue goes out of it: it tells whether
      this one has come to where it leads, or goes on later;
    - `failed(walker, frame, fault)` when an exception does: it tells whether this one is caught.
    """

    def __init__(self, frame):
        self.depth = len(frame.stack)

    def left(self, walker, frame, word, value):
        return False

    def failed(self, walker, frame, fault):
        return False


def end_block(walker, frame, block):
    block.ended(walker, frame)


def leave(walker, frame, part):
    """Let a Return, Break or Continue go out of what is open, to where it leads."""
    word, value = part
    while frame.tasks:
        _, block = frame.tasks.pop()
        if isinstance(block, Block):
            del frame.stack[block.depth:]
            if block.left(walker, frame, word, value):
                return
    walker.finish(frame, value)


def fail(walker, frame, fault):
    """Let an exception go out of what is open, to where it is caught."""
    while frame.tasks:
        _, block = frame.tasks.pop()
        if isinstance(block, Block):
            del frame.stack[block.depth:]
            if block.failed(walker, frame, fault):
                return
    walker.break_off(frame, fault)


class Loop(Block):
    """A loop's body; the loop has a task that begins its next turn, and so many values of its own on the stack."""

    def __init__(self, frame, again, many):
        Block.__init__(self, frame)
        self.again = again
        self.many = many

    def ended(self, walker, frame):
        push(frame, [self.again])

    def left(self, walker, frame, word, value):
        if word == "continue":
            push(frame, [self.again])
        elif word == "break":
            del frame.stack[self.depth - self.many:]
        return word != "return"


class Guarded(Block):
    """A Try's body under its handlers, with the tasks of its orelse and the one that looks at the first handler."""

    def __init__(self, frame, orelse, first):
        Block.__init__(self, frame)
        self.orelse = orelse
        self.first = first

    def ended(self, walker, frame):
        push(frame, self.orelse)

    def failed(self, walker, frame, fault):
        push(frame, [self.first, (end_block, Handling(walker, frame, fault))])
        return True


class Handling(Block):
    """What runs while an exception is handled; a name that stands for it is deleted at the end."""

    def __init__(self, walker, frame, fault):
        Block.__init__(self, frame)
        self.fault = fault
        # Where it is told what is handled, and what has been told there.
        handled = walker.handled
        self.handled = handled
        self.before = handled.fault
        self.name = None
        handled.fault = fault

    def close(self, walker, frame):
        handled = self.handled
        handled.fault = self.before
        if self.name is not None:
            # It may have been deleted by now.
            store(walker, frame, self.name, None)
            delete(walker, frame, self.name)

    def ended(self, walker, frame):
        self.close(walker, frame)

    def left(self, walker, frame, word, value):
        self.close(walker, frame)
        return False

    def failed(self, walker, frame, fault):
        self.close(walker, frame)
        return False


class Final(Block):
    """What lies under a finalbody, of which it has the tasks."""

    def __init__(self, frame, finalbody):
        Block.__init__(self, frame)
        self.finalbody = finalbody

    def ended(self, walker, frame):
        push(frame, self.finalbody)

    def left(self, walker, frame, word, value):
        push(frame, [*self.finalbody, (leave, (word, value))])
        return True

    def failed(self, walker, frame, fault):
        push(frame, [*self.finalbody, (end_block, Failing(walker, frame, fault))])
        return True


class Failing(Handling):
    """A finalbody behind an exception, which is raised again at its end."""

    def ended(self, walker, frame):
        self.close(walker, frame)
        fail(walker, frame, self.fault)


class Context(Block):
    """The body of a With for one of its items, whose `__exit__` lies on top of the stack."""

    def __init__(self, frame, line):
        Block.__init__(self, frame)
        self.line = line

    def ended(self, walker, frame):
        walker.tell(frame, self.line)
        walker.call(frame.stack.pop(), [None, None, None])

    def left(self, walker, frame, word, value):
        push(frame, [(end_block, self), (leave, (word, value))])
        return True

    def failed(self, walker, frame, fault):
        push(frame, [(start_exit, self.line), (end_block, Exiting(walker, frame, fault))])
        return True


class Exiting(Handling):
    """The call of an `__exit__` with an exception, which may put it away."""

    def ended(self, walker, frame):
        away = frame.stack.pop()
        self.close(walker, frame)
        frame.stack.pop()
        if not away:
            fail(walker, frame, self.fault)


def start_exit(walker, frame, line):
    """Call the `__exit__` on top with the exception that is handled; its truth comes onto the stack."""
    walker.tell(frame, line)
    fault = walker.handled.fault
    frame.stack.append(truth(walker, walker.call(frame.stack[-1], [fault.shape, fault, None])))


class Delegate(Block):
    """A rest in a yield from what lies on top of the stack."""

    def ended(self, walker, frame):
        delegate(walker, frame, None)

    def failed(self, walker, frame, fault):
        if not walker.is_stop(fault):
            return False
        frame.stack[-1] = walker.value_of_stop(fault)
        return True


def delegate(walker, frame, part):
    """Send the top to what lies below it; rest with what that yields, or leave the value with which it ends."""
    value = frame.stack.pop()
    resting, found = sent(walker, frame.stack[-1], value)
    if not resting:
        frame.stack[-1] = found
        return
    frame.tasks.append((end_block, Delegate(frame)))
    frame.value = found
    frame.state = RESTS
    walker.put(("yield", plain(found)))
