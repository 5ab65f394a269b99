"""Bytes of codes cut into instructions."""

from codewalk.encoding import EXTENDED_ARG, WORDS

MOST_EXTENDED = 3


def cut(data):
    """The instructions of bytes, and where they cannot be cut any further, or None if that is nowhere.

    They are three lists: where each of them begins, their words, and their whole arguments. Each ends, with its caches,
    where the next one begins.
    """
    begins, words, arguments = [], [], []
    size = len(data)
    begin = 0
    wrong = None if data else 0
    while begin < size:
        at = begin
        argument = 0
        if data[at] not in WORDS:
            at, argument = behind_extension(data, at)
            if not 0 < at - begin <= 2 * MOST_EXTENDED or data[begin + 1] == 0 or at >= size or data[at] not in WORDS:
                wrong = begin
                break
        word, units = WORDS[data[at]]
        end = at + 2 * units
        if end > size or (units > 1 and any(data[at + 2:end])):
            wrong = begin
            break
        begins.append(begin)
        words.append(word)
        arguments.append(argument | data[at + 1])
        begin = end
    return (begins, words, arguments, wrong)


def behind_extension(data, at):
    """Where EXTENDED_ARG instructions end that begin there, if any do, and what they give of an argument."""
    argument = 0
    while at + 1 < len(data) and data[at] == EXTENDED_ARG:
        argument = (argument | data[at + 1]) << 8
        at += 2
    return (at, argument)
