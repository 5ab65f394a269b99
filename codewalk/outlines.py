"""Scopes made ready for the walker, the frames that run them, and the names in these.

A TASK is a tuple of what is done, a function that takes the walker, the frame and a part, and this part. The tasks of
a frame are a stack, the next one last.
"""

from codewalk.assembly import flags_of
from codewalk.generate import cells_of
from codewalk.values import Cell, NEW, Nothing, Plan
from codewalk.writing import FUNCTION_ENDINGS, OTHER_ENDINGS


class Outline(Plan):
    """A scope as a plan of functions."""

    def __init__(self, scope):
        names, only, _, _ = scope.taken
        Plan.__init__(self, scope.name, scope.path, flags_of(scope), (*names, *only), len(names))
        self.scope = scope
        # All parameters, with rest and more.
        self.parameters = list(scope.parameters)
        self.cells = cells_of(scope)
        self.frees = sorted(scope.frees)
        function = scope.is_function()
        # How each name is looked for.
        self.endings = {name: FUNCTION_ENDINGS[kind] if function else OTHER_ENDINGS[kind]
                        for name, kind in scope.kinds.items()}


class Activation:
    """A frame of the walker."""

    def __init__(self, plan, values, names, cells):
        self.plan = plan
        self.path = plan.path
        self.stack = []
        self.tasks = []
        self.names = names
        # The locals that have a value, by name, and the cells.
        self.locals = {name: value for name, value in zip(plan.parameters, values)}
        self.cells = {name: cell for name, cell in zip(plan.frees, cells)}
        for name in plan.cells:
            self.cells[name] = Cell(self.locals[name] if name in self.locals else Nothing())
        self.line = plan.scope.line
        self.told = None
        self.state = NEW
        # What has been yielded or returned last, and the exception with which it has ended.
        self.value = None
        self.fault = None


def push(frame, tasks):
    """Put tasks where the first of them is the next one."""
    frame.tasks.extend(list(reversed(tasks)))


def load(walker, frame, name):
    """The value of a name."""
    ending = frame.plan.endings[name]
    if ending == "FAST":
        if name not in frame.locals:
            walker.fail("UnboundLocalError")
        return frame.locals[name]
    if ending == "DEREF":
        # A class may have a name that is free in it by itself.
        if frame.names is not None and name in frame.names:
            return frame.names[name]
        return content_of(walker, frame, name)
    return load_name(walker, frame, name) if ending == "NAME" else walker.global_of(name)


def load_name(walker, frame, name):
    return frame.names[name] if name in frame.names else walker.global_of(name)


def content_of(walker, frame, name):
    """What the cell of a name has."""
    value = frame.cells[name].content
    if isinstance(value, Nothing):
        walker.fail("NameError" if name in frame.plan.frees else "UnboundLocalError")
    return value


def store(walker, frame, name, value):
    ending = frame.plan.endings[name]
    if ending == "FAST":
        frame.locals[name] = value
    elif ending == "DEREF":
        cell = frame.cells[name]
        cell.content = value
    elif ending == "NAME":
        frame.names[name] = value
    else:
        walker.shared[name] = value


def delete(walker, frame, name):
    ending = frame.plan.endings[name]
    if ending == "FAST":
        if name not in frame.locals:
            walker.fail("UnboundLocalError")
        del frame.locals[name]
    elif ending == "DEREF":
        content_of(walker, frame, name)
        cell = frame.cells[name]
        cell.content = Nothing()
    else:
        walker.delete_from(frame.names if ending == "NAME" else walker.shared, name)
