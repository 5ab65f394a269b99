"""The rounds of the flow, which make rows fewer until one changes nothing.

The functions for single rules change the list of rows that they are given, and tell what they have changed.
"""

from codewalk.ways import without_unreached
from codewalk.words import LEAVING

# What has been changed: nothing, rows that go on to the next one as before, or where rows lead.
NOTHING = 0
ROWS = 1
WAYS = 2

JUMPS = {"JUMP": True, "JUMP_NO_INTERRUPT": True}
THREADED = {
    "JUMP": True, "JUMP_NO_INTERRUPT": True, "POP_JUMP_IF_FALSE": True, "POP_JUMP_IF_NONE": True,
    "POP_JUMP_IF_NOT_NONE": True, "POP_JUMP_IF_TRUE": True,
}


def rounds(rows, words):
    """The rows behind the last of the rounds; the words are those that there were at first."""
    if "LABEL" in words:
        return rounds_with_labels(rows, words)
    stale = combine(rows) != NOTHING or "NOP" in words
    while stale:
        rows, _, met = without_nops(rows)
        stale = met and combine(rows) != NOTHING
    return rows


def rounds_with_labels(rows, words):
    """The same for rows with labels, all of which are reached at first."""
    jumps = "JUMP" in words or "JUMP_NO_INTERRUPT" in words
    loose = False
    met = True
    changed = True
    while changed:
        before = len(rows)
        changes = combine(rows) if met else NOTHING
        if jumps or changes & WAYS:
            jumps = True
            changes |= turn_jumps(rows)
        if loose or changes & WAYS:
            rows = without_unreached(rows)
        unlike = len(rows) < before
        rows, loose, met = without_nops(rows)
        # Where a label is gone, rows have met as well.
        met = met or unlike
        changed = changes != NOTHING or len(rows) < before
    return rows


def cleared(rows):
    """The rows without needless jumps, rows and NOPs."""
    drop_jumps(rows, jumps_in(rows))
    return only_telling(without_unreached(rows))


def only_telling(rows):
    """The rows without the NOPs that tell no line of their own."""
    found, _, _ = without_nops(rows)
    return found


def combine(rows):
    """Take each row together with the one ahead of it where a rule fits."""
    changes = NOTHING
    for at, word in enumerate([row[0] for row in rows]):
        if word in RULES and at > 0:
            action = RULES[word]
            changes |= action(rows, at)
    return changes


def blank(rows, at):
    """Put a NOP in the place of a row."""
    _, _, line, handler = rows[at]
    rows[at] = ("NOP", None, line, handler)


def combine_truth(rows, at):
    """Take TO_BOOL together with a constant, or with what is a bool anyway."""
    word, argument, line, handler = rows[at - 1]
    if word == "LOAD_CONST":
        _, _, told, guard = rows[at]
        blank(rows, at - 1)
        rows[at] = ("LOAD_CONST", bool(argument), told, guard)
    elif word == "COMPARE_OP":
        rows[at - 1] = (word, (argument[0], True), line, handler)
        blank(rows, at)
    elif word in BOOLS:
        blank(rows, at)
    else:
        return NOTHING
    return ROWS


def combine_jump(rows, at):
    """Take a jump by the truth of a constant together with this."""
    if rows[at - 1][0] != "LOAD_CONST":
        return NOTHING
    word, argument, line, handler = rows[at]
    jumps = bool(rows[at - 1][1]) == (word == "POP_JUMP_IF_TRUE")
    blank(rows, at - 1)
    rows[at] = ("JUMP", argument, line, handler) if jumps else ("NOP", None, line, handler)
    return WAYS


def combine_none(rows, at):
    """Take None, a comparison with it by IS_OP and a jump by the result together."""
    if at + 1 == len(rows) or rows[at - 1][0] != "LOAD_CONST" or rows[at - 1][1] is not None:
        return NOTHING
    word, label, line, handler = rows[at + 1]
    if word != "POP_JUMP_IF_FALSE" and word != "POP_JUMP_IF_TRUE":
        return NOTHING
    jumps = (rows[at][1] == 0) == (word == "POP_JUMP_IF_TRUE")
    blank(rows, at - 1)
    blank(rows, at)
    rows[at + 1] = ("POP_JUMP_IF_NONE" if jumps else "POP_JUMP_IF_NOT_NONE", label, line, handler)
    return ROWS


def combine_null(rows, at):
    """Take PUSH_NULL together with the global that is loaded ahead of it."""
    word, argument, line, handler = rows[at - 1]
    if word != "LOAD_GLOBAL" or argument[1]:
        return NOTHING
    rows[at - 1] = (word, (argument[0], True), line, handler)
    blank(rows, at)
    return ROWS


def combine_return(rows, at):
    """Take RETURN_VALUE together with a constant."""
    word, constant, first, _ = rows[at - 1]
    if word != "LOAD_CONST":
        return NOTHING
    _, _, line, handler = rows[at]
    blank(rows, at - 1)
    rows[at] = ("RETURN_CONST", constant, first if line is None else line, handler)
    return ROWS


# What takes a row with this word together with the one ahead of it; a LABEL there is no word that any of them knows.
RULES = {
    "TO_BOOL": combine_truth, "POP_JUMP_IF_FALSE": combine_jump, "POP_JUMP_IF_TRUE": combine_jump,
    "IS_OP": combine_none, "PUSH_NULL": combine_null, "RETURN_VALUE": combine_return,
}

# The words that must stand ahead of these words, or of one that goes together with them.
MEETING = {
    "TO_BOOL": (
        "LOAD_CONST", "COMPARE_OP", "CHECK_EXC_MATCH", "CONTAINS_OP", "IS_OP", "TO_BOOL", "UNARY_NOT",
    ),
    "POP_JUMP_IF_FALSE": ("LOAD_CONST", "IS_OP"), "POP_JUMP_IF_TRUE": ("LOAD_CONST", "IS_OP"),
    "IS_OP": ("LOAD_CONST",), "PUSH_NULL": ("LOAD_GLOBAL",), "RETURN_VALUE": ("LOAD_CONST",),
}

# The words that leave a bool.
BOOLS = {"CHECK_EXC_MATCH": True, "CONTAINS_OP": True, "IS_OP": True, "TO_BOOL": True, "UNARY_NOT": True}


def turn_jumps(rows):
    """Let jumps lead to where artificial jumps lead at last, and blank those to what follows anyway."""
    jumps = jumps_in(rows)
    return thread(rows, jumps) | drop_jumps(rows, jumps) if jumps else NOTHING


def jumps_in(rows):
    """The indexes of jumps that are made in any case."""
    return [at for at, row in enumerate(rows) if row[0] in JUMPS]


def thread(rows, jumps):
    """Let jumps to artificial jumps lead to where those lead at last."""
    onward = last_labels(onward_labels(rows, jumps))
    if not onward:
        return NOTHING
    changes = NOTHING
    for at, row in enumerate(list(rows)):
        word, label, line, handler = row
        if word in THREADED and onward.get(label) is not None:
            rows[at] = (word, onward[label], line, handler)
            changes = WAYS
    return changes


def onward_labels(rows, jumps):
    """For each label behind which an artificial jump stands, the label of this jump."""
    onward = {}
    for at in jumps:
        word, leads, line, _ = rows[at]
        if word == "JUMP" and line is None:
            while at > 0 and rows[at - 1][0] == "LABEL":
                at -= 1
                onward[rows[at][1]] = leads
    return onward


def last_labels(onward):
    """For each label the last one to which it leads, or None if that is a ring."""
    last = {}
    for label in onward:
        path = {}
        at = label
        while at in onward and at not in last and at not in path:
            path[at] = True
            at = onward[at]
        end = last[at] if at in last else at
        for passed in path:
            last[passed] = None if at in path else end
    return last


def drop_jumps(rows, jumps):
    """Blank the jumps to what follows them anyway."""
    changes = NOTHING
    for at in jumps:
        if leads_on(rows, at):
            blank(rows, at)
            changes = WAYS
    return changes


def leads_on(rows, at):
    """Whether the label of a jump follows it with only labels between."""
    label = rows[at][1]
    at += 1
    while at < len(rows) and rows[at][0] == "LABEL":
        if rows[at][1] == label:
            return True
        at += 1
    return False


def without_nops(rows):
    """The rows without the NOPs that tell no line of their own; and whether one of these had a handler, and whether
    rows have met where one of them was that may be taken together."""
    found = []
    loose = False
    met = False
    # The line that a NOP leaves to the row behind it.
    kept = None
    for at, row in enumerate(rows):
        if kept is not None:
            row = (row[0], row[1], kept, row[3])
            kept = None
        if row[0] != "NOP":
            found.append(row)
            continue
        line = row[2]
        behind = rows[at + 1]
        if line is not None and not tells_line_ahead(found, line):
            if behind[0] == "LABEL" or (behind[2] is not None and behind[2] != line):
                found.append(row)
                continue
            if behind[2] is None:
                kept = line
        loose = loose or row[3] is not None
        met = met or may_meet(found, behind[0])
    return (found, loose, met)


def tells_line_ahead(found, line):
    """Whether the last row goes on and has this line; a LABEL has none."""
    return len(found) > 0 and found[-1][2] == line and found[-1][0] not in LEAVING


def may_meet(found, word):
    """Whether a rule may take the last row together with one with this word."""
    return word in MEETING and len(found) > 0 and found[-1][0] in MEETING[word]
