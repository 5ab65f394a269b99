"""The locals of a code, in the order of their numbers."""

from codewalk.words import LOCAL, LOCAL_PAIRS


def parameters_of(head):
    names, only, rest, more = head[4]
    found = [*names, *only]
    if rest is not None:
        found.append(rest)
    if more is not None:
        found.append(more)
    return found


def numbers_of(rows, head):
    """The number of each local: parameters, other names in the order of the rows, cells, free names."""
    cells, frees = head[5], head[6]
    numbers = {}
    for name in parameters_of(head):
        numbers[name] = len(numbers)
    shared = {name: True for name in [*cells, *frees]}
    for name in locals_in(rows):
        if name not in numbers and name not in shared:
            numbers[name] = len(numbers)
    for name in shared:
        if name not in numbers:
            numbers[name] = len(numbers)
    return numbers


def locals_in(rows):
    """The locals that rows name, as often as they do."""
    found = []
    for row in rows:
        if row[0] in LOCAL:
            found.append(row[1])
        elif row[0] in LOCAL_PAIRS:
            found.extend(row[1])
    return found
