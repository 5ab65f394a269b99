"""The locals of a code, in the order of their numbers."""

from codewalk.words import LOCAL


def parameters_of(head):
    names, only, rest, more = head[4]
    found = [*names, *only]
    if rest is not None:
        found.append(rest)
    if more is not None:
        found.append(more)
    return found


def numbers_of(rows, head):
    """The number of each local: parameters, other names in the order of the rows, cells, free names."""
    shared = [*head[5], *head[6]]
    apart = {name: True for name in shared}
    numbers = {}
    for name in [*parameters_of(head), *[name for name in locals_in(rows) if name not in apart], *shared]:
        if name not in numbers:
            numbers[name] = len(numbers)
    return numbers


def locals_in(rows):
    """The locals that rows name, as often as they do."""
    found = []
    for named in [row[1] for row in rows if row[0] in LOCAL]:
        if isinstance(named, tuple):
            found.extend(named)
        else:
            found.append(named)
    return found
