"""The stack size of a code."""

from codewalk.ways import places_of
from codewalk.words import EFFECTS, LEADING, LEAVING, QUIET, effect_of


def stack_size(rows):
    """The greatest number of entries on the stack along any way through flowed rows, but at least 1."""
    places = places_of(rows)
    passed = [False] * len(rows)
    greatest = 1
    waiting = [(0, 0)]
    while waiting:
        at, depth = waiting.pop()
        while not passed[at]:
            passed[at] = True
            word, argument, _, handler = rows[at]
            if handler is not None and word not in QUIET and not passed[places[handler[0]]]:
                caught = handler[1] + (2 if handler[2] else 1)
                greatest = max(greatest, caught)
                waiting.append((places[handler[0]], caught))
            depth += EFFECTS[word] if word in EFFECTS else effect_of(word, argument)
            if depth > greatest:
                greatest = depth
            if word in LEADING:
                waiting.append((places[argument], depth))
            if word in LEAVING:
                break
            at += 1
    return greatest
