"""Values of programs that are run.

None, bools, integers, strings and tuples are those of Python; all others are objects of the classes below, which are
equal to themselves alone.
"""

# What a frame does: it has not begun, it rests at a yield, it runs, it has ended.
NEW = 0
RESTS = 1
RUNS = 2
ENDED = 3


class Raised(Exception):
    """An exception of a program is on its way."""

    def __init__(self, value):
        self.value = value


class Stopped(Exception):
    """The log is as long as it may be."""


class Nothing:
    """What a local or a cell has that has no value."""


class Cell:
    """A variable that functions share."""

    def __init__(self, content):
        self.content = content


class List:
    def __init__(self, row):
        self.row = row


class Dict:
    """A dict: for the key of each key, as `key_of` tells it, the key and the value."""

    def __init__(self):
        self.pairs = {}


class Range:
    """The numbers from a first one on, so far apart, as far as they lie ahead of an end."""

    def __init__(self, first, end, step):
        self.first = first
        self.end = end
        self.step = step
        # How many there are.
        self.many = max(0, (end - first + step - (1 if step > 0 else -1)) // step)


class Iterator:
    """Where something is that is gone through by index; an ended one has no source."""

    def __init__(self, source, row):
        self.source = source
        # The elements; those of a list are looked for when their turn comes, and those of a range are reckoned.
        self.row = row
        self.at = 0


class Plan:
    """What a function runs: its name, path and flags, and its parameters, those by keyword only behind the others."""

    def __init__(self, name, path, flags, taken, many):
        self.name = name
        self.path = path
        self.flags = flags
        # The names of parameters, and how many of them may be passed by position.
        self.taken = taken
        self.many = many


class Function:
    def __init__(self, plan):
        self.plan = plan
        self.defaults = ()
        # A dict of names and values.
        self.onlydefaults = {}
        self.cells = ()


class Method:
    """A function of a class, as an attribute of an instance."""

    def __init__(self, function, owner):
        self.function = function
        self.owner = owner


class Builtin:
    """A builtin function, or a builtin method of its owner: what is done with the owner and the values passed."""

    def __init__(self, name, action, owner):
        self.name = name
        self.action = action
        self.owner = owner


class Class:
    def __init__(self, name, base, names, builtin):
        self.name = name
        self.base = base
        self.names = names
        self.builtin = builtin
        # Whether its instances are exceptions.
        self.raises = base is not None and base.raises

    def has_base(self, other):
        """Whether this is a class, or is based on it."""
        at = self
        while at is not None:
            if at == other:
                return True
            at = at.base
        return False

    def found(self, name):
        """What the class, or a class that it is based on, has by a name, as a tuple of one, or ()."""
        at = self
        while at is not None:
            if name in at.names:
                return (at.names[name],)
            at = at.base
        return ()


class Instance:
    def __init__(self, shape):
        self.shape = shape
        self.names = {}


class Fault(Instance):
    """An instance of an exception class."""

    def __init__(self, shape, arguments):
        Instance.__init__(self, shape)
        self.arguments = arguments
        self.cause = None
        self.context = None
        # The frames that it has left, as tuples (path, line), the last one of the list first.
        self.trace = []


class Handled:
    """The exception that is handled, or None, by all frames or by a generator; and what counts where it is None."""

    def __init__(self):
        self.fault = None
        self.around = None


class Generator:
    def __init__(self, frame, path):
        self.frame = frame
        self.path = path
        self.handled = Handled()
