"""The stack size of a code."""

from codewalk.ways import places_of
from codewalk.words import EFFECTS, LEADING, LEAVING, QUIET, TURNING, effect_of


def stack_size(rows):
    """The greatest number of entries on the stack along any way through flowed rows, but at least 1."""
    # The entries at labels to which rows further ahead lead.
    depths = {}
    greatest = 1
    depth = 0
    live = True
    for word, argument, _, handler in rows:
        if word == "LABEL":
            if not live:
                if argument not in depths:
                    # Rows further on may lead there, or none.
                    return size_along_ways(rows)
                live = True
                depth = depths[argument]
        elif live:
            if handler is not None and handler[0] not in depths and word not in QUIET:
                depths[handler[0]] = handler[1] + (2 if handler[2] else 1)
                greatest = max(greatest, depths[handler[0]])
            depth += EFFECTS[word] if word in EFFECTS else effect_of(word, argument)
            if depth > greatest:
                greatest = depth
            if word in TURNING:
                if word in LEADING:
                    depths[argument] = depth
                live = word not in LEAVING
    return greatest


def size_in_order(rows):
    """The same for rows without labels, of which none leads elsewhere than to the next one."""
    greatest = 1
    depth = 0
    for row in rows:
        word = row[0]
        depth += EFFECTS[word] if word in EFFECTS else effect_of(word, row[1])
        if depth > greatest:
            greatest = depth
        if word in LEAVING:
            break
    return greatest


def size_along_ways(rows):
    """The same, way by way, for rows of which some are led to from further on alone."""
    places = places_of(rows)
    passed = [False] * len(rows)
    greatest = 1
    waiting = [(0, 0)]
    while waiting:
        at, depth = waiting.pop()
        while not passed[at]:
            passed[at] = True
            word, argument, _, handler = rows[at]
            if handler is not None and word not in QUIET and not passed[places[handler[0]]]:
                caught = handler[1] + (2 if handler[2] else 1)
                greatest = max(greatest, caught)
                waiting.append((places[handler[0]], caught))
            depth += EFFECTS[word] if word in EFFECTS else effect_of(word, argument)
            if depth > greatest:
                greatest = depth
            if word in LEADING:
                waiting.append((places[argument], depth))
            if word in LEAVING:
                break
            at += 1
    return greatest
