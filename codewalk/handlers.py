"""The first step of the flow: which rows are reached, and which handler each of them has.

What is open at a row is linked: a tuple (the last handler opened, what else is open, how many there are).
"""

from codewalk.ways import places_of, without_idle_labels
from codewalk.words import EFFECTS, LEADING, LEAVING, effect_of

NOTHING = (None, None, 0)

# How many entries fewer stay than there are, and whether the offset is put on them.
SETUPS = {"SETUP_FINALLY": (0, False), "SETUP_CLEANUP": (0, True), "SETUP_WITH": (1, True)}


def with_handlers(rows):
    """Rows as they are written, as tuples (word, argument, line, handler), as far as some way reaches them."""
    opened = handlers_open(rows)
    found = []
    for at, row in enumerate(rows):
        word, argument, line = row
        if word == "LABEL":
            found.append((word, argument, None, None))
        elif opened[at] is None:
            continue
        elif word in SETUPS or word == "POP_BLOCK":
            if line is not None:
                found.append(("NOP", None, line, opened[at][0]))
        else:
            if word == "RESUME" and argument == 1 and is_outermost_yield(rows, opened, at - 1):
                argument = 5
            found.append((word, argument, line, opened[at][0]))
    return without_idle_labels(found)


def is_outermost_yield(rows, opened, at):
    """Whether a row is a yield of a generator with no handler of the source around it."""
    return at >= 0 and rows[at][0] == "YIELD_VALUE" and opened[at] is not None and opened[at][2] == 1


def handlers_open(rows):
    """What is open at each row, or None where no way reaches it."""
    places = places_of(rows)
    opened = [None] * len(rows)
    caught = {}
    # The begins of ways, with the entries on the stack and what is open there.
    waiting = [(0, 0, NOTHING)]
    while waiting:
        at, depth, guards = waiting.pop()
        while opened[at] is None:
            word, argument, line = rows[at]
            opened[at] = guards
            if word in SETUPS:
                fewer, wanted = SETUPS[word]
                guards = ((argument, depth - fewer, wanted), guards, guards[2] + 1)
            elif word == "POP_BLOCK":
                guards = guards[1]
                opened[at] = guards
            handler, outer, _ = opened[at]
            if handler is not None and handler[0] not in caught and stays(word, line):
                caught[handler[0]] = True
                waiting.append((places[handler[0]], handler[1] + (2 if handler[2] else 1), outer))
            depth += EFFECTS[word] if word in EFFECTS else effect_of(word, argument)
            if word in LEADING:
                waiting.append((places[argument], depth, guards))
            if word in LEAVING:
                break
            at += 1
    return opened


def stays(word, line):
    """Whether a row is still one when what opens and closes handlers is gone."""
    return word != "LABEL" and (line is not None or (word not in SETUPS and word != "POP_BLOCK"))
