"""Looking whether trees are right.

A LOOK function takes a node, a Look and how many more nodes may be looked at within one another below it. It returns
None if the node is right, and else the indexes that lead from it to what is wrong first, THE LAST FIRST: [] if it is
wrong itself.
"""

from codewalk.names import is_name

# So many nodes are looked at within one another; those that lie deeper are put off, or calls would be nested too deep.
ROOM = 40


class Look:
    """A look at a tree: the last line so far, and the names that are known to be right."""

    def __init__(self):
        self.line = 0
        self.names = {}
        # What has been put off, as a tuple of a look function and a node, or None.
        self.deep = None
        # The lines behind the nodes that lie too deep and are known to be right; how many of these have been passed.
        self.lines = ()
        self.passed = 0

    def put_off(self, look_at, node):
        """Leave a node for a look that begins there, and end this one; or pass it if it is known to be right."""
        if self.passed == len(self.lines):
            self.deep = (look_at, node)
            return []
        self.line = self.lines[self.passed]
        self.passed += 1
        return None


class Begin:
    """Where a look begins: at a node, or a tree, that lies so in the one before, behind a line."""

    def __init__(self, look_at, node, line, path):
        self.look_at = look_at
        self.node = node
        self.line = line
        self.path = path
        # What the looks from the nodes in it have given that lie too deep.
        self.lines = []


def look_through(look_at, tree):
    """The indexes that lead to what is wrong first in a tree, the last first, or None if it is right."""
    look = Look()
    wrong = look_at(tree, look, ROOM)
    if look.deep is None:
        return wrong
    begins = [Begin(look_at, tree, 0, [])]
    while begins:
        wrong = look_from(begins[-1], look)
        if look.deep is not None:
            action, node = look.deep
            begins.append(Begin(action, node, look.line, wrong))
        elif wrong is not None:
            return wrong + [step for begin in reversed(begins) for step in begin.path]
        else:
            begins.pop()
            if begins:
                around = begins[-1]
                around.lines.append(look.line)
    return None


def look_from(begin, look):
    look.deep = None
    look.line = begin.line
    look.lines = begin.lines
    look.passed = 0
    action = begin.look_at
    return action(begin.node, look, ROOM)


def is_named(name, look):
    """Whether an object is a name."""
    return isinstance(name, str) and name in look.names or is_new_name(name, look)


def is_new_name(name, look):
    """Whether an object that has not been met yet is a name; names come again and again."""
    if not is_name(name):
        return False
    look.names[name] = True
    return True


def has_names(part, look):
    """Whether an object is a row of names."""
    if not isinstance(part, (list, tuple)):
        return False
    for name in part:
        if not is_named(name, look):
            return False
    return True


def are_tuples(part, size):
    """Whether an object is a row of tuples of a size."""
    if not isinstance(part, (list, tuple)):
        return False
    for one in part:
        if not isinstance(one, tuple) or len(one) != size:
            return False
    return True
