"""The rounds of the flow, which make rows fewer until one changes nothing.

The functions for single rules change the list of rows that they are given, and tell whether they have.
"""

from codewalk.ways import without_unreached
from codewalk.words import LEAVING

JUMPS = {"JUMP": True, "JUMP_NO_INTERRUPT": True}
THREADED = {
    "JUMP": True, "JUMP_NO_INTERRUPT": True, "POP_JUMP_IF_FALSE": True, "POP_JUMP_IF_NONE": True,
    "POP_JUMP_IF_NOT_NONE": True, "POP_JUMP_IF_TRUE": True,
}


def rounds(rows):
    """The rows behind the last of the rounds."""
    changed = True
    while changed:
        before = len(rows)
        rows = list(rows)
        combined = combine(rows)
        threaded = thread(rows)
        rows, dropped = cleared(rows)
        changed = combined or threaded or dropped or len(rows) < before
    return rows


def cleared(rows):
    """The rows without needless jumps, rows and NOPs, and whether a jump has become a NOP."""
    rows = list(rows)
    changed = drop_jumps(rows)
    return (without_nops(without_unreached(rows)), changed)


def combine(rows):
    """At each row, take it together with the ones behind it as long as a rule fits."""
    changed = False
    for at in range(len(rows) - 1):
        action = RULES.get(rows[at][0])
        while action is not None and action(rows, at):
            changed = True
            action = RULES.get(rows[at][0])
    return changed


def blank(rows, at):
    """Put a NOP in the place of a row."""
    _, _, line, handler = rows[at]
    rows[at] = ("NOP", None, line, handler)


def combine_constant(rows, at):
    constant = rows[at][1]
    word, argument, line, handler = rows[at + 1]
    if word == "TO_BOOL":
        blank(rows, at)
        rows[at + 1] = ("LOAD_CONST", bool(constant), line, handler)
    elif word == "POP_JUMP_IF_FALSE" or word == "POP_JUMP_IF_TRUE":
        blank(rows, at)
        if bool(constant) == (word == "POP_JUMP_IF_TRUE"):
            rows[at + 1] = ("JUMP", argument, line, handler)
        else:
            blank(rows, at + 1)
    elif word == "RETURN_VALUE":
        first = rows[at][2]
        blank(rows, at)
        rows[at + 1] = ("RETURN_CONST", constant, first if line is None else line, handler)
    else:
        return constant is None and word == "IS_OP" and combine_none(rows, at)
    return True


def combine_none(rows, at):
    """Take None, a comparison with it and a jump by the result together."""
    if at + 2 >= len(rows):
        return False
    word, label, line, handler = rows[at + 2]
    if word != "POP_JUMP_IF_FALSE" and word != "POP_JUMP_IF_TRUE":
        return False
    jumps = (rows[at + 1][1] == 0) == (word == "POP_JUMP_IF_TRUE")
    blank(rows, at)
    blank(rows, at + 1)
    rows[at + 2] = ("POP_JUMP_IF_NONE" if jumps else "POP_JUMP_IF_NOT_NONE", label, line, handler)
    return True


def combine_comparison(rows, at):
    if rows[at + 1][0] != "TO_BOOL":
        return False
    word, argument, line, handler = rows[at]
    rows[at] = (word, (argument[0], True), line, handler)
    blank(rows, at + 1)
    return True


def combine_bool(rows, at):
    if rows[at + 1][0] != "TO_BOOL":
        return False
    blank(rows, at + 1)
    return True


def combine_global(rows, at):
    word, argument, line, handler = rows[at]
    if argument[1] or rows[at + 1][0] != "PUSH_NULL":
        return False
    rows[at] = (word, (argument[0], True), line, handler)
    blank(rows, at + 1)
    return True


# What takes a row with this word together with the ones behind it; a LABEL behind it is no word that any of them knows.
RULES = {
    "LOAD_CONST": combine_constant, "COMPARE_OP": combine_comparison, "CONTAINS_OP": combine_bool,
    "IS_OP": combine_bool, "UNARY_NOT": combine_bool, "CHECK_EXC_MATCH": combine_bool, "TO_BOOL": combine_bool,
    "LOAD_GLOBAL": combine_global,
}


def thread(rows):
    """Let jumps to artificial jumps lead to where those lead at last."""
    onward = last_labels(onward_labels(rows))
    if not onward:
        return False
    changed = False
    for at, row in enumerate(list(rows)):
        word, label, line, handler = row
        if word in THREADED and onward.get(label) is not None:
            rows[at] = (word, onward[label], line, handler)
            changed = True
    return changed


def onward_labels(rows):
    """For each label behind which an artificial jump stands, the label of this jump."""
    onward = {}
    leads = None
    for at in range(len(rows) - 1, -1, -1):
        word, argument, line, _ = rows[at]
        if word != "LABEL":
            leads = argument if word == "JUMP" and line is None else None
        elif leads is not None:
            onward[argument] = leads
    return onward


def last_labels(onward):
    """For each label the last one to which it leads, or None if that is a ring."""
    last = {}
    for label in onward:
        path = {}
        at = label
        while at in onward and at not in last and at not in path:
            path[at] = True
            at = onward[at]
        end = last[at] if at in last else at
        for passed in path:
            last[passed] = None if at in path else end
    return last


def drop_jumps(rows):
    """Blank the jumps to what follows them anyway."""
    changed = False
    for at in range(len(rows)):
        if rows[at][0] in JUMPS and leads_on(rows, at):
            blank(rows, at)
            changed = True
    return changed


def leads_on(rows, at):
    """Whether the label of a jump follows it with only labels between."""
    label = rows[at][1]
    at += 1
    while at < len(rows) and rows[at][0] == "LABEL":
        if rows[at][1] == label:
            return True
        at += 1
    return False


def without_nops(rows):
    """The rows without the NOPs that tell no line of their own."""
    found = []
    kept = None
    for at, row in enumerate(rows):
        if kept is not None:
            row = (row[0], row[1], kept, row[3])
            kept = None
        if row[0] != "NOP":
            found.append(row)
        elif row[2] is not None and not tells_line_ahead(found, row[2]):
            behind = rows[at + 1]
            if behind[0] == "LABEL":
                found.append(row)
            elif behind[2] is None:
                kept = row[2]
            elif behind[2] != row[2]:
                found.append(row)
    return found


def tells_line_ahead(found, line):
    """Whether the last row goes on and has this line; a LABEL has none."""
    return len(found) > 0 and found[-1][2] == line and found[-1][0] not in LEAVING
