"""Bytes of codes cut into instructions."""

from codewalk.encoding import EXTENDED_ARG, WORDS

MOST_EXTENDED = 3


def cut(data):
    """The instructions of bytes, and where they cannot be cut any further, or None if that is nowhere.

    An instruction is a tuple (where it begins, its word, its whole argument, where it ends with its caches).
    """
    found = []
    size = len(data)
    begin = 0
    while begin < size:
        at = begin
        argument = 0
        while at + 1 < size and data[at] == EXTENDED_ARG:
            argument = argument << 8 | data[at + 1]
            at += 2
        if at + 1 >= size or at > begin + 2 * MOST_EXTENDED or (at > begin and data[begin + 1] == 0):
            return (found, begin)
        if data[at] not in WORDS:
            return (found, begin)
        word, units = WORDS[data[at]]
        end = at + 2 * units
        if end > size or (units > 1 and any(data[at + 2:end])):
            return (found, begin)
        found.append((begin, word, argument << 8 | data[at + 1], end))
        begin = end
    return (found, None if found else 0)
