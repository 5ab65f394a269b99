"""The final form of the rows of a code."""

from codewalk.bound import with_checks
from codewalk.handlers import with_handlers
from codewalk.placing import with_cold_last, with_lines
from codewalk.rounds import rounds
from codewalk.slots import numbers_of
from codewalk.ways import places_of

MOST_IN_PAIRS = 16

# The words of jumps that lead forward, and backward.
DIRECTIONS = {
    "JUMP": ("JUMP_FORWARD", "JUMP_BACKWARD"), "JUMP_NO_INTERRUPT": ("JUMP_FORWARD", "JUMP_BACKWARD_NO_INTERRUPT"),
}
OPPOSITES = {
    "POP_JUMP_IF_FALSE": "POP_JUMP_IF_TRUE", "POP_JUMP_IF_TRUE": "POP_JUMP_IF_FALSE",
    "POP_JUMP_IF_NONE": "POP_JUMP_IF_NOT_NONE", "POP_JUMP_IF_NOT_NONE": "POP_JUMP_IF_NONE",
}


def flowed(rows, head, passes=True):
    """The rows of a code as tuples (word, argument, line, handler), in their final form."""
    found = with_handlers(rows)
    if passes:
        found = rounds(found)
    found = with_lines(found)
    if passes:
        found = with_cold_last(found)
    found = with_checks(found, head)
    if passes:
        found = with_pairs(found, head)
    return with_directions(found)


def with_pairs(rows, head):
    """The rows, with loads and stores of locals taken together two by two."""
    numbers = numbers_of(rows, head)
    found = []
    for row in rows:
        if found and (row[0] == "LOAD_FAST" or row[0] == "STORE_FAST"):
            pair = pair_of(found[-1], row, numbers)
            if pair is not None:
                found[-1] = pair
                continue
        found.append(row)
    return found


def pair_of(ahead, row, numbers):
    """The row that does what a row and the load or the store behind it do, or None."""
    first, name, line, handler = ahead
    second, other, _, _ = row
    if first != "STORE_FAST" and (first != "LOAD_FAST" or second != "LOAD_FAST"):
        return None
    if row[2] != line or row[3] != handler or max(numbers[name], numbers[other]) >= MOST_IN_PAIRS:
        return None
    return (f"{first}_{second}", (name, other), line, handler)


def with_directions(rows):
    """The rows, with jumps that tell whether they lead forward or backward."""
    places = places_of(rows)
    free = 0
    found = []
    for at, row in enumerate(rows):
        word, label, line, handler = row
        if word in DIRECTIONS:
            forward, backward = DIRECTIONS[word]
            found.append((forward if places[label] > at else backward, label, line, handler))
        elif word in OPPOSITES and places[label] < at:
            while free in places:
                free += 1
            found.append((OPPOSITES[word], free, line, handler))
            found.append(("JUMP_BACKWARD", label, line, handler))
            found.append(("LABEL", free, None, None))
            free += 1
        else:
            found.append(row)
    return found
