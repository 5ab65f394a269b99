"""Which trees are programs."""

from codewalk.errors import NoTree
from codewalk.forms import OPERATORS, OPTIONS, ROWS, WORDLESS, form_of, inside
from codewalk.names import is_name

LAST_LINE = 1000000


def check(tree):
    """Raise NoTree with the place of the first node that is wrong, if there is one."""
    if not fits("body", tree, 0):
        raise NoTree(())
    line = 0
    # A stack, the next node last: what is inside of a node comes ahead of what is behind it.
    waiting = [("statement", node, (at,)) for at, node in reversed(list(enumerate(tree)))]
    while waiting:
        role, node, place = waiting.pop()
        if not is_right(role, node, line):
            raise NoTree(place)
        line = line_behind(role, node, line)
        for inner, part, steps in reversed(inside(role, node)):
            waiting.append((inner, part, place + steps))


def line_behind(role, node, line):
    """The line that the next statement or handler must exceed."""
    if role == "statement":
        return node[1]
    return node[0] if role == "handler" else line


def is_right(role, node, line):
    """Whether a node is right in its role, whatever the nodes inside of it are."""
    form = form_of(role, node)
    if form is None:
        return False
    return all([fits(kind, node[at], line) for at, kind in enumerate(form)]) and agrees(role, node)


def fits(kind, part, line):
    """Whether a part is of its kind; of nodes, which are looked at later, only the outer shape counts."""
    if kind in ROWS:
        each, least = ROWS[kind]
        return is_row(part) and len(part) >= least and all([fits(each, one, line) for one in part])
    if kind in OPTIONS:
        return part is None or fits(OPTIONS[kind], part, line)
    if kind in OPERATORS:
        return isinstance(part, str) and part in OPERATORS[kind]
    if kind in WORDLESS:
        return form_of(kind, part) is not None
    match kind:
        case "line":
            return is_integer(part) and line < part <= LAST_LINE
        case "name":
            return is_name(part)
        case "constant":
            return part is None or isinstance(part, (int, str))
    return True


def is_row(part):
    return isinstance(part, (list, tuple))


def is_integer(part):
    return isinstance(part, int) and not isinstance(part, bool)


def agrees(role, node):
    """Whether the parts of a node, each of its kind, can stand together."""
    word = role if role in WORDLESS else node[0]
    match word:
        case "handler":
            return node[1] is not None or node[2] is None
        case "parameters":
            return len(node[1]) <= len(node[0]) and len(node[3]) == len(node[4])
        case "Raise":
            return node[2] is not None or node[3] is None
        case "Try":
            return len(node[3]) > 0 or (len(node[4]) == 0 and len(node[5]) > 0)
        case "Dict":
            return len(node[1]) == len(node[2])
        case "Compare":
            return len(node[2]) == len(node[3])
        case "Tuple" | "List":
            return role not in ("target", "piece") or stars(node[1]) < 2
        case "Subscript":
            return role != "deletion" or not has_word("index", node[2], "Slice")
    return True


def stars(row):
    """How many Starred are in the row of a target."""
    return len([part for part in row if has_word("piece", part, "Starred")])


def has_word(role, node, word):
    """Whether an object has the form of this word; one that has none is wrong itself, when its turn comes."""
    return form_of(role, node) is not None and node[0] == word
