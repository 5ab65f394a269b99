"""The machine that runs codes."""

from codewalk.codes import Code
from codewalk.encoding import GENERATOR
from codewalk.errors import NoCode, NoNumber
from codewalk.programs import Frame, Program
from codewalk.values import ENDED, NEW, RUNS, Raised
from codewalk.world import World, is_limit


def run(code, most):
    """The log of a run of the code of a program, with so many entries at most, and the outcome."""
    if not isinstance(code, Code) or code.flags != 0 or code.slots:
        raise NoCode("code")
    if not is_limit(most):
        raise NoNumber(most)
    machine = Machine(most)
    return machine.whole(machine.framed(Program(code), [], machine.shared, ()))


class Machine(World):
    """A run of a code."""

    def framed(self, program, values, names, cells):
        if not program.steps:
            program.prepare()
        return Frame(program, values, names, cells)

    def frame_of(self, function, values, names):
        frame = self.framed(function.plan, values, names, function.cells)
        if function.plan.flags & GENERATOR:
            # Up to where the generator is made.
            self.execute(frame, None)
        return frame

    def delegate_of(self, frame):
        return frame.stack[-1] if frame.delegates and frame.stack else None

    def execute(self, frame, fault):
        begun = frame.state != NEW
        frame.state = RUNS
        if fault is not None:
            # What rests is a yield; in what has not begun there is no handler yet.
            self.settle(frame, frame.at - 1 if begun else frame.at, fault, begun)
        steps = frame.plan.steps
        stops = False
        while not stops:
            at = frame.at
            action, argument, line, frame.at = steps[at]
            if line is not None and line != frame.told:
                frame.told = line
                self.put(("line", line))
            try:
                stops = action(self, frame, argument)
            except Raised as raised:
                self.settle(frame, at, raised.value, True)
        return frame.value

    def settle(self, frame, at, fault, begun):
        """Let an exception that has come out of an instruction go to its handler, or out of the frame."""
        plan = frame.plan
        if not plan.is_silent(at):
            fault.trace.append((frame.path, plan.lines[at]))
        handler = plan.handlers[at] if begun and plan.handlers else None
        if handler is None:
            frame.state = ENDED
            self.put(("leave", fault.shape.name))
            raise Raised(fault)
        target, depth, wanted = handler
        del frame.stack[depth:]
        frame.stack.extend([at, fault] if wanted else [fault])
        frame.at = target
