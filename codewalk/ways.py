"""The ways through the rows of a code: tuples (word, argument, line, handler)."""

from codewalk.words import LEADING, LEAVING, TURNING


def words_in(rows):
    """The words of rows."""
    return {row[0]: True for row in rows}


def places_of(rows):
    """The index of each label."""
    return {row[1]: at for at, row in enumerate(rows) if row[0] == "LABEL"}


def reached(rows, named, exceptions):
    """For each row whether some way from the first one reaches it; exceptions lead from all rows, or from none.

    The labels to which rows lead that are reached are put into the dict.
    """
    again = True
    while again:
        found = []
        live = True
        unknown = []
        for word, argument, _, handler in rows:
            if word in TURNING:
                if word == "LABEL" and not live:
                    live = argument in named
                    if not live:
                        unknown.append(argument)
                elif live and word in LEADING:
                    named[argument] = True
            found.append(live)
            if live:
                if handler is not None and exceptions:
                    named[handler[0]] = True
                if word in LEAVING:
                    live = False
        # A row further on may lead to a label that was passed by.
        again = any([label in named for label in unknown])
    return found


def without_unreached(rows):
    """The rows without those that no way reaches, and without labels that nothing names."""
    named = {}
    found = reached(rows, named, True)
    return [row for row, live in zip(rows, found) if live and (row[0] != "LABEL" or row[1] in named)]
