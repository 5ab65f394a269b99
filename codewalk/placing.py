"""Steps of the flow: lines for artificial rows, and cold rows at the end. The words passed are those of the rows."""

from codewalk.rounds import cleared, only_telling
from codewalk.ways import places_of, reached
from codewalk.words import LEADING, LEAVING


def with_lines(rows, words):
    """The rows, the artificial ones with the line of the only row that leads to them, if that has one."""
    bare = [at for at, row in enumerate(rows) if row[2] is None and at > 0 and row[0] != "LABEL"]
    if "LABEL" in words:
        return with_lines_on_ways(rows, bare)
    found = list(rows)
    for at in bare:
        word, argument, _, handler = rows[at]
        found[at] = (word, argument, found[at - 1][2], handler)
    return found


def with_lines_on_ways(rows, bare):
    """The same for rows with labels, of which these are the artificial ones but for a first one."""
    found = list(rows)
    for at, line in lines_along(sources_of(rows, bare), rows).items():
        word, argument, _, handler = rows[at]
        found[at] = (word, argument, line, handler)
    return found


def lines_along(sources, rows):
    """For each row with a source the line of the row with which its sources begin."""
    lines = {}
    for at in sources:
        path = {}
        source = at
        while source in sources and source not in lines and source not in path:
            path[source] = True
            source = sources[source]
        line = lines[source] if source in lines else rows[source][2]
        for passed in path:
            lines[passed] = line
    return lines


def sources_of(rows, bare):
    """For artificial rows, of which all are given but a first one, the row that leads to each, where it is just one."""
    sources = {}
    # Those behind labels: these, and the row ahead if it goes on.
    behind = {}
    for at in bare:
        labels = []
        ahead = at - 1
        while ahead >= 0 and rows[ahead][0] == "LABEL":
            labels.append(rows[ahead][1])
            ahead -= 1
        goes_on = ahead < 0 or rows[ahead][0] not in LEAVING
        if labels:
            # The begin is a way, too, although it has no line.
            behind[at] = (labels, [ahead] if goes_on else [])
        elif goes_on:
            sources[at] = ahead
    return {**sources, **sources_at_labels(rows, behind)} if behind else sources


def sources_at_labels(rows, behind):
    """The same for rows behind labels, to which jumps may lead, and exceptions must not."""
    leads = leads_of(rows)
    sources = {}
    for at, (labels, ways) in behind.items():
        ways = ways + [source for label in labels for source in leads.get(label, ())]
        if len(ways) == 1 and ways[0] >= 0:
            sources[at] = ways[0]
    if sources:
        caught = {row[3][0]: True for row in rows if row[3] is not None}
        return {at: source for at, source in sources.items() if not any([label in caught for label in behind[at][0]])}
    return sources


def leads_of(rows):
    """For each label the indexes of the rows that lead to it by a jump, FOR_ITER or SEND."""
    leads = {}
    for at, row in enumerate(rows):
        if row[0] in LEADING:
            leads.setdefault(row[1], []).append(at)
    return leads


def with_cold_last(rows, words):
    """The rows, those that are reached by exceptions alone at the end."""
    guarded = "LABEL" in words and any([row[3] is not None for row in rows])
    warm = warm_rows(rows) if guarded else []
    if not all(warm):
        return cleared(moved_back(rows, warm))
    return only_telling(rows) if "NOP" in words else rows


def moved_back(rows, warm):
    """The rows, the cold ones behind the warm ones."""
    places = places_of(rows)
    kept = []
    cold = []
    for at, row in enumerate(rows):
        if warm[at]:
            kept.append(row)
            continue
        word, argument, line, handler = row
        if word == "JUMP" and warm[places[argument]]:
            word = "JUMP_NO_INTERRUPT"
        cold.append((word, argument, line, handler))
        # A warm row that follows a cold one is reached by a jump, so it has a label.
        if word not in LEAVING and warm[at + 1]:
            cold.append(("JUMP_NO_INTERRUPT", rows[at + 1][1], line, handler))
    return kept + cold


def warm_rows(rows):
    """For each row whether it is reached without exceptions; a label is what the row behind it is."""
    warm = reached(rows, {}, False)
    for at in range(len(rows) - 2, -1, -1):
        if rows[at][0] == "LABEL":
            warm[at] = warm[at + 1]
    return warm
