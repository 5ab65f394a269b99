"""What a run of a program has, whoever executes its frames: the log, the globals, the builtins, what is handled."""

from codewalk.calling import call_value, make_class
from codewalk.names import special
from codewalk.natives import CLASSES, FUNCTIONS
from codewalk.plain import plain_row
from codewalk.values import Builtin, Class, Fault, Function, Handled, Instance, Method, Raised, Stopped

MOST_FRAMES = 16
MOST_ENTRIES = 100000

# The class of all exceptions.
FIRST_TO_RAISE = "BaseException"


class World:
    """A run. What executes frames is based on it, and has three methods more.

    - `frame_of(function, values, names)` makes the frame of a function with what its parameters get, and the dict of
      its names, or None;
    - `execute(frame, fault)` lets a frame go on until it rests or ends, if there is a fault by raising it where it
      rests, and returns the value that is yielded or returned;
    - `delegate_of(frame)` is what a frame that rests yields from, or None.
    """

    def __init__(self, most):
        self.log = []
        self.most = most
        self.running = 0
        self.handled = Handled()
        self.named_bool = special("bool")
        self.named_iter = special("iter")
        self.named_next = special("next")
        self.named_call = special("call")
        self.named_init = special("init")
        self.named_enter = special("enter")
        self.named_exit = special("exit")
        self.named_name = special("name")
        self.named_cause = special("cause")
        self.named_context = special("context")
        self.builder = Builtin(special("build_class"), make_class, None)
        # The globals, and the builtins by their names.
        self.shared = {self.named_name: "__main__"}
        self.named = {name: Builtin(name, action, None) for name, action in FUNCTIONS.items()}
        for name, base in CLASSES:
            made = Class(name, None if base is None else self.named[base], {}, True)
            made.raises = made.raises or name == FIRST_TO_RAISE
            self.named[name] = made

    def put(self, entry):
        """Put an entry into the log."""
        self.log.append(entry)
        if len(self.log) == self.most:
            raise Stopped()

    def enter(self, path):
        """Begin with a frame, or let one go on."""
        if self.running == MOST_FRAMES:
            self.fail("RecursionError", ())
        self.put(("call", path))
        self.running += 1

    def whole(self, frame):
        """The log and the outcome of a program with this frame."""
        try:
            self.enter(frame.path)
            self.execute(frame, None)
        except Raised as raised:
            fault = raised.value
            trace = list(reversed(fault.trace))
            return (self.log, ("raised", fault.shape.name, plain_row(fault.arguments, -1), trace))
        except Stopped:
            return (self.log, ("stopped",))
        return (self.log, ("returned",))

    def call(self, called, values):
        return call_value(self, called, values, {})

    def run_body(self, function, names):
        """Run the body of a class with the dict of its names."""
        self.run_frame(self.frame_of(function, [], names))

    def run_frame(self, frame):
        self.enter(frame.path)
        try:
            return self.execute(frame, None)
        finally:
            self.running -= 1

    def made(self, name, arguments):
        """A new exception of a builtin class."""
        return Fault(self.named[name], arguments)

    def made_stop(self, value):
        """A new StopIteration with what is returned."""
        return self.made("StopIteration", () if value is None else (value,))

    def fail(self, name, arguments=()):
        """Raise a new exception of a builtin class."""
        self.throw(self.made(name, arguments))

    def throw(self, fault):
        """Raise an exception, with the one that is handled as its context."""
        self.link(fault)
        raise Raised(fault)

    def link(self, fault):
        handled = self.handled_fault()
        if handled is None or handled == fault:
            return
        at = handled
        while at.context is not None:
            if at.context == fault:
                at.context = None
            else:
                at = at.context
        fault.context = handled

    def handled_fault(self):
        """The exception that is handled here, or None."""
        at = self.handled
        while at is not None and at.fault is None:
            at = at.around
        return None if at is None else at.fault

    def global_of(self, name):
        """A global or a builtin."""
        if name in self.shared:
            return self.shared[name]
        if name not in self.named:
            self.fail("NameError")
        return self.named[name]

    def delete_from(self, names, name):
        """Delete a name from a dict of them."""
        if name not in names:
            self.fail("NameError")
        del names[name]

    def stop(self, value):
        """Raise a StopIteration with what is returned."""
        self.throw(self.made_stop(value))

    def is_stop(self, fault):
        return fault.shape.has_base(self.named["StopIteration"])

    def is_exit(self, fault):
        return fault.shape.has_base(self.named["GeneratorExit"])

    def value_of_stop(self, fault):
        return fault.arguments[0] if fault.arguments else None

    def special(self, value, name):
        """The function of the class of an instance by a special name, or None if there is nothing by it."""
        found = value.shape.found(name)
        if not found:
            return None
        if not isinstance(found[0], Function):
            self.fail("TypeError")
        return found[0]

    def want(self, values, least, most):
        """See to it that there are so many values."""
        if not least <= len(values) <= most:
            self.fail("TypeError")

    def exception_of(self, value):
        """An exception, or what a class of exceptions gives when it is called."""
        if isinstance(value, Class) and value.raises:
            return self.call(value, [])
        if not isinstance(value, Fault):
            self.fail("TypeError")
        return value

    def throw_given(self, value, causes):
        """Raise what is given, with a cause or with none."""
        fault = self.exception_of(value)
        for cause in causes:
            fault.cause = None if cause is None else self.exception_of(cause)
        self.throw(fault)

    def fault_again(self):
        """What is raised again: the exception that is handled, or else another one."""
        fault = self.handled_fault()
        return self.made("RuntimeError", ()) if fault is None else fault

    def is_caught(self, fault, kinds):
        """Whether an exception is of a class, or of one in a tuple."""
        kinds = kinds if isinstance(kinds, tuple) else (kinds,)
        for kind in kinds:
            if not isinstance(kind, Class) or not kind.raises:
                self.fail("TypeError")
        return any([fault.shape.has_base(kind) for kind in kinds])

    def entered(self, value):
        """The bound `__exit__` of an instance, and what its `__enter__` gives."""
        if not isinstance(value, Instance):
            self.fail("TypeError")
        enter = self.special(value, self.named_enter)
        leave = self.special(value, self.named_exit)
        if enter is None or leave is None:
            self.fail("TypeError")
        return (Method(leave, value), self.call(enter, [value]))

    def ended_generator(self, fault):
        """What leaves a generator that has begun with an exception: never a StopIteration."""
        if not self.is_stop(fault):
            return fault
        found = self.made("RuntimeError", ())
        found.cause = fault
        found.context = fault
        return found


def is_limit(value):
    """Whether a log may have so many entries."""
    return isinstance(value, int) and not isinstance(value, bool) and 1 <= value <= MOST_ENTRIES
