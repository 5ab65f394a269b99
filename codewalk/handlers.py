"""The first step of the flow: which rows are reached, and which handler each of them has.

What is open at a row is linked: a tuple (the last handler opened, what else is open, how many there are).
"""

from codewalk.words import EFFECTS, LEADING, LEAVING, TURNING, effect_of

NOTHING = (None, None, 0)

# What opens handlers: how many entries fewer stay than there are, and whether the offset is put on them.
SETUPS = {"SETUP_FINALLY": (0, False), "SETUP_CLEANUP": (0, True), "SETUP_WITH": (1, True)}

# What opens and closes handlers.
OPENING = {"POP_BLOCK": True, "SETUP_CLEANUP": True, "SETUP_FINALLY": True, "SETUP_WITH": True}


def with_handlers(rows, words):
    """Rows as they are written, as tuples (word, argument, line, handler), as far as some way reaches them.

    The words are those of the rows.
    """
    if "LABEL" not in words:
        return first_rows(rows)
    if "SETUP_FINALLY" in words or "SETUP_CLEANUP" in words or "SETUP_WITH" in words:
        return reached_rows(rows, reached_with)
    return reached_rows(rows, reached_without)


def first_rows(rows):
    """The rows up to the first that leaves; without labels there is no other way, and no handler."""
    found = []
    for word, argument, line in rows:
        found.append((word, argument, line, None))
        if word in LEAVING:
            break
    return found


def reached_rows(rows, go_through):
    """The same for rows with labels, those that nothing names left out; one of the two functions below goes through."""
    # What is known of labels to which a row that is reached leads: the entries on the stack, and what is open there.
    told = {}
    found, unknown = go_through(rows, told)
    while any([label in told and not live for label, live in unknown.items()]):
        found, unknown = go_through(rows, told)
    if all([label in told for label in unknown]):
        return found
    return [row for row in found if row[0] != "LABEL" or row[1] in told]


def reached_without(rows, told):
    """What `reached_with` gives, for rows that open no handler."""
    found = []
    unknown = {}
    live = True
    for word, argument, line in rows:
        if word == "LABEL":
            if argument not in told:
                unknown[argument] = live
            else:
                live = True
            found.append((word, argument, None, None))
        elif live:
            found.append((word, argument, line, None))
            if word in TURNING:
                if word in LEADING:
                    told[argument] = NOTHING
                live = word not in LEAVING
    return (found, unknown)


def reached_with(rows, told):
    """Go through the rows; those that are reached, and the labels that were not known ahead of them.

    These may be named by rows further on. The dict tells of each whether the way went on there; if not, the rows behind
    one that is known by now are missing.
    """
    found = []
    unknown = {}
    ahead, live, depth, guards = "", True, 0, NOTHING
    for word, argument, line in rows:
        if word == "LABEL":
            if argument not in told:
                unknown[argument] = live
            elif not live:
                live = True
                depth, guards = told[argument]
            found.append((word, argument, None, None))
        elif live and word in OPENING:
            row, guards = opened((word, argument, line), told, depth, guards)
            found.extend(row)
        elif live:
            handler = guards[0]
            if handler is not None and handler[0] not in told:
                tell_handler(told, guards)
            if word == "RESUME" and argument == 1 and guards[2] == 1 and ahead == "YIELD_VALUE":
                # No handler of the source is around it.
                argument = 5
            found.append((word, argument, line, handler))
            depth += EFFECTS[word] if word in EFFECTS else effect_of(word, argument)
            if word in TURNING:
                if word in LEADING and argument not in told:
                    told[argument] = (depth, guards)
                live = word not in LEAVING
        ahead = word
    return (found, unknown)


def opened(row, told, depth, guards):
    """What becomes of a row that opens or closes a handler, as a list of one row or none, and what is open behind."""
    word, argument, line = row
    if word == "POP_BLOCK":
        around = behind = guards[1]
    else:
        fewer, wanted = SETUPS[word]
        around, behind = guards, ((argument, depth - fewer, wanted), guards, guards[2] + 1)
    if line is None:
        return ([], behind)
    tell_handler(told, around)
    return ([("NOP", None, line, around[0])], behind)


def tell_handler(told, guards):
    """Tell the label of the last handler opened, if there is one, how a row leads there that has it."""
    handler, outer, _ = guards
    if handler is not None and handler[0] not in told:
        told[handler[0]] = (handler[1] + (2 if handler[2] else 1), outer)
