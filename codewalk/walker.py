"""The walker, which runs trees themselves."""

from codewalk.blocks import Delegate, fail
from codewalk.encoding import GENERATOR
from codewalk.errors import NoNumber
from codewalk.outlines import Activation, Outline
from codewalk.plain import plain
from codewalk.preparing import prepare
from codewalk.scopes import settled
from codewalk.turning import begin
from codewalk.values import ENDED, Function, NEW, RUNS, Raised, Stopped
from codewalk.world import World, is_limit


def walk(tree, most):
    """The log of a run of a program, with so many entries at most, and the outcome. Raises NoTree, NoProgram."""
    scopes = settled(tree)
    prepare(tree, scopes)
    if not is_limit(most):
        raise NoNumber(most)
    walker = Walker(most, scopes)
    return walker.whole(walker.frame_of(Function(walker.outlines[0]), [], walker.shared))


class Walker(World):
    """A run of a tree with these scopes."""

    def __init__(self, most, scopes):
        World.__init__(self, most)
        self.outlines = [Outline(scope) for scope in scopes]

    def frame_of(self, function, values, names):
        frame = Activation(function.plan, values, names, function.cells)
        begin(self, frame)
        return frame

    def delegate_of(self, frame):
        _, part = frame.tasks[-1]
        return frame.stack[-1] if isinstance(part, Delegate) else None

    def tell(self, frame, line):
        """Come to a line."""
        frame.line = line
        if line != frame.told:
            frame.told = line
            self.log.append(("line", line))
            if len(self.log) == self.most:
                raise Stopped()

    def execute(self, frame, fault):
        begun = frame.state != NEW
        frame.state = RUNS
        if fault is not None:
            fault.trace.append((frame.path, frame.line))
            if begun:
                fail(self, frame, fault)
            else:
                self.end_frame(frame, fault)
        tasks = frame.tasks
        while frame.state == RUNS:
            action, part = tasks.pop()
            try:
                action(self, frame, part)
            except Raised as raised:
                raised.value.trace.append((frame.path, frame.line))
                fail(self, frame, raised.value)
        if frame.fault is not None:
            raise Raised(frame.fault)
        return frame.value

    def finish(self, frame, value):
        """End a frame with a value."""
        frame.value = value
        frame.state = ENDED
        self.put(("return", plain(value)))

    def break_off(self, frame, fault):
        """End a frame that has begun with an exception."""
        self.end_frame(frame, self.ended_generator(fault) if frame.plan.flags & GENERATOR else fault)

    def end_frame(self, frame, fault):
        frame.fault = fault
        frame.state = ENDED
        self.put(("leave", fault.shape.name))
