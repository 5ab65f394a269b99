"""The final form of the rows of a code."""

from codewalk.bound import with_checks
from codewalk.handlers import with_handlers
from codewalk.placing import with_cold_last, with_lines
from codewalk.rounds import rounds
from codewalk.slots import numbers_of
from codewalk.ways import words_in
from codewalk.words import TURNING

MOST_IN_PAIRS = 16

# The words of jumps that lead forward, and backward.
DIRECTIONS = {
    "JUMP": ("JUMP_FORWARD", "JUMP_BACKWARD"), "JUMP_NO_INTERRUPT": ("JUMP_FORWARD", "JUMP_BACKWARD_NO_INTERRUPT"),
}
OPPOSITES = {
    "POP_JUMP_IF_FALSE": "POP_JUMP_IF_TRUE", "POP_JUMP_IF_TRUE": "POP_JUMP_IF_FALSE",
    "POP_JUMP_IF_NONE": "POP_JUMP_IF_NOT_NONE", "POP_JUMP_IF_NOT_NONE": "POP_JUMP_IF_NONE",
}


def flowed(rows, head, passes=True):
    """The rows of a code as tuples (word, argument, line, handler), in their final form."""
    words = words_in(rows)
    found = with_handlers(rows, words)
    if passes:
        found = rounds(found, words)
        # A word may have come or gone.
        words = words_in(found)
    found = with_lines(found, words)
    if passes:
        found = with_cold_last(found, words)
    found = with_checks(found, head, words)
    if passes:
        found = with_pairs(found, head, words)
    return with_directions(found) if "LABEL" in words else found


def with_pairs(rows, head, words):
    """The rows, which have these words, with loads and stores of locals taken together two by two."""
    if "LOAD_FAST" not in words and "STORE_FAST" not in words:
        return rows
    numbers = {}
    found = []
    for row in rows:
        word = row[0]
        if (word == "LOAD_FAST" or word == "STORE_FAST") and found and are_alike(found[-1], row):
            numbers = numbers or numbers_of(rows, head)
            first, name, line, handler = found[-1]
            if numbers[name] < MOST_IN_PAIRS and numbers[row[1]] < MOST_IN_PAIRS:
                found[-1] = (f"{first}_{word}", (name, row[1]), line, handler)
                continue
        found.append(row)
    return found


def are_alike(ahead, row):
    """Whether a load or store may be taken together with the row ahead of it, if their numbers are small enough."""
    word = ahead[0]
    if word != "STORE_FAST" and (word != "LOAD_FAST" or row[0] != "LOAD_FAST"):
        return False
    return ahead[2] == row[2] and ahead[3] == row[3]


def with_directions(rows):
    """The rows, with jumps that tell whether they lead forward or backward."""
    places = {}
    jumps = []
    for at, row in enumerate(rows):
        word = row[0]
        if word in TURNING:
            if word == "LABEL":
                places[row[1]] = at
            elif word in DIRECTIONS or word in OPPOSITES:
                jumps.append(at)
    found = []
    done = 0
    free = 0
    for at in jumps:
        word, label, line, handler = rows[at]
        found.extend(rows[done:at])
        done = at + 1
        if word in DIRECTIONS:
            forward, backward = DIRECTIONS[word]
            found.append((forward if places[label] > at else backward, label, line, handler))
        elif places[label] > at:
            found.append(rows[at])
        else:
            while free in places:
                free += 1
            found.append((OPPOSITES[word], free, line, handler))
            found.append(("JUMP_BACKWARD", label, line, handler))
            found.append(("LABEL", free, None, None))
            free += 1
    return found + rows[done:]
