"""Bytes of codes cut into instructions."""

from codewalk.encoding import EXTENDED_ARG, WORDS

MOST_EXTENDED = 3


def cut(data):
    """The instructions of bytes, and where they cannot be cut any further, or None if that is nowhere.

    An instruction is a tuple (where it begins, its word, its whole argument, where it ends with its caches).
    """
    found = []
    size = len(data)
    begin = 0
    while begin < size:
        at = begin
        argument = 0
        number = data[at]
        if number not in WORDS:
            at, argument = behind_extension(data, at)
            if at == begin or at > begin + 2 * MOST_EXTENDED or data[begin + 1] == 0:
                return (found, begin)
            if at >= size or data[at] not in WORDS:
                return (found, begin)
            number = data[at]
        word, units = WORDS[number]
        end = at + 2 * units
        if end > size or (units > 1 and any(data[at + 2:end])):
            return (found, begin)
        found.append((begin, word, argument | data[at + 1], end))
        begin = end
    return (found, None if found else 0)


def behind_extension(data, at):
    """Where EXTENDED_ARG instructions end that begin there, if any do, and what they give of an argument."""
    argument = 0
    while at + 1 < len(data) and data[at] == EXTENDED_ARG:
        argument = (argument | data[at + 1]) << 8
        at += 2
    return (at, argument)
