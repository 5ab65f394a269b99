"""The ways through the rows of a code: tuples (word, argument, line, handler)."""

from codewalk.words import LEADING, LEAVING


def places_of(rows):
    """The index of each label."""
    return {row[1]: at for at, row in enumerate(rows) if row[0] == "LABEL"}


def reached(rows, exceptions):
    """For each row whether some way from the first one reaches it; exceptions lead from all rows, or from none."""
    places = places_of(rows)
    found = [False] * len(rows)
    waiting = [0]
    while waiting:
        at = waiting.pop()
        while not found[at]:
            found[at] = True
            word, argument, _, handler = rows[at]
            if word in LEADING and not found[places[argument]]:
                waiting.append(places[argument])
            if exceptions and handler is not None and not found[places[handler[0]]]:
                waiting.append(places[handler[0]])
            if word in LEAVING:
                break
            at += 1
    return found


def without_idle_labels(rows):
    """The rows without the labels that nothing names."""
    named = {}
    labels = 0
    for word, argument, _, handler in rows:
        if word == "LABEL":
            labels += 1
        elif word in LEADING:
            named[argument] = True
        if handler is not None:
            named[handler[0]] = True
    if labels == len(named):
        return rows
    return [row for row in rows if row[0] != "LABEL" or row[1] in named]


def without_unreached(rows):
    """The rows without those that no way reaches, and without labels that nothing names."""
    found = reached(rows, True)
    if not all(found):
        rows = [row for at, row in enumerate(rows) if found[at]]
    return without_idle_labels(rows)
