"""Scopes made ready for the walker, the frames that run them, and the names in these.

A TASK is a tuple of what is done, a function that takes the walker, the frame and a part, and this part. The tasks of
a frame are a stack, the next one last.
"""

from codewalk.generate import cells_of
from codewalk.values import Cell, NEW, Nothing, Plan


class Outline(Plan):
    """A scope as a plan of functions."""

    def __init__(self, scope):
        names, only, _, _ = scope.taken
        Plan.__init__(self, scope.name, scope.path, scope.flags, names + only, len(names))
        self.scope = scope
        # All parameters, with rest and more.
        self.parameters = scope.parameters
        self.cells = cells_of(scope) if scope.cells else ()
        self.frees = sorted(scope.frees) if scope.frees else ()
        # Whether it rests in the midst of expressions.
        self.yields = scope.yields


class Activation:
    """A frame of the walker."""

    def __init__(self, plan, values, names, cells):
        self.plan = plan
        self.path = plan.path
        # The kinds of names.
        self.kinds = plan.scope.kinds
        self.stack = []
        self.tasks = []
        # None in a function.
        self.names = names
        # The locals that have a value, by name, and the cells.
        self.locals = {name: value for name, value in zip(plan.parameters, values)} if values else {}
        self.cells = {name: cell for name, cell in zip(plan.frees, cells)} if cells else {}
        for name in plan.cells:
            self.cells[name] = Cell(self.locals[name] if name in self.locals else Nothing())
        self.line = plan.scope.line
        self.told = None
        self.state = NEW
        # What has been yielded or returned last, and the exception with which it has ended.
        self.value = None
        self.fault = None


def push(frame, tasks):
    """Put tasks where the first of them is the next one."""
    frame.tasks.extend(list(reversed(tasks)))


def load(walker, frame, name):
    """The value of a name."""
    kind = frame.kinds[name]
    names = frame.names
    if names is None:
        if kind == "local":
            if name not in frame.locals:
                walker.fail("UnboundLocalError")
            return frame.locals[name]
        if kind == "implicit" or kind == "global":
            return walker.global_of(name)
        value = frame.cells[name].content
        return content_of(walker, frame, name) if isinstance(value, Nothing) else value
    # A class may have a name that is free in it by itself.
    if kind != "global" and name in names:
        return names[name]
    return content_of(walker, frame, name) if kind == "free" else walker.global_of(name)


def content_of(walker, frame, name):
    """What the cell of a name has."""
    value = frame.cells[name].content
    if isinstance(value, Nothing):
        walker.fail("NameError" if name in frame.plan.frees else "UnboundLocalError")
    return value


def store(walker, frame, name, value):
    # A name that is stored or deleted is never implicit.
    kind = frame.kinds[name]
    if kind == "local":
        names = frame.locals if frame.names is None else frame.names
        names[name] = value
    elif kind == "global":
        walker.shared[name] = value
    else:
        cell = frame.cells[name]
        cell.content = value


def delete(walker, frame, name):
    kind = frame.kinds[name]
    if kind == "global":
        walker.delete_from(walker.shared, name)
    elif kind != "local":
        content_of(walker, frame, name)
        cell = frame.cells[name]
        cell.content = Nothing()
    elif frame.names is not None:
        walker.delete_from(frame.names, name)
    else:
        if name not in frame.locals:
            walker.fail("UnboundLocalError")
        del frame.locals[name]
