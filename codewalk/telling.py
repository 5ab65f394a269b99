"""Instructions told one by one, and the bytes of such."""

from codewalk.arguments import FORMS
from codewalk.cases import spread, target_of
from codewalk.codes import Code
from codewalk.cutting import cut
from codewalk.encoding import EXTENDED_ARG, FIRST_WITH_ARGUMENT
from codewalk.errors import NoCode, NoRows, NoTable
from codewalk.layout import extension_of
from codewalk.meanings import MEANINGS
from codewalk.tables import line_rows
from codewalk.words import LEADING

GREATEST_ARGUMENT = 4294967295


def instructions(code):
    """The instructions of a code as tuples (offset, word, argument, meaning, line). Raises NoCode."""
    if not isinstance(code, Code):
        raise NoCode("code")
    found, wrong = cut(code.code)
    if wrong is not None:
        raise NoCode("code")
    told = []
    for begin, word, argument, end in found:
        meaning = meaning_of(code, word, argument, end)
        while code.code[begin] == EXTENDED_ARG:
            told.append((begin, "EXTENDED_ARG", code.code[begin + 1], ""))
            begin += 2
        told.append((begin, word, argument if takes_argument(word) else None, meaning))
    lines = spread(lines_of(code), [row[0] for row in told])
    return [(*row, line) for row, line in zip(told, lines)]


def lines_of(code):
    """The rows of a line table, or none if it is no table."""
    try:
        return line_rows(code)
    except NoTable:
        return []


def takes_argument(word):
    number, _, _ = FORMS[word]
    return number >= FIRST_WITH_ARGUMENT


def meaning_of(code, word, argument, end):
    if word in LEADING:
        return f"to {target_of(word, argument, end)}"
    if word not in MEANINGS:
        return ""
    tell = MEANINGS[word]
    meaning = tell(code, argument)
    if meaning is None:
        raise NoCode("code")
    return meaning


def bytes_of(rows):
    """The bytes of rows (word, argument), with caches and EXTENDED_ARG. Raises NoRows."""
    if not isinstance(rows, (list, tuple)):
        raise NoRows(-1)
    found = []
    for at, row in enumerate(rows):
        if not isinstance(row, tuple) or len(row) != 2 or not is_instruction(row[0], row[1]):
            raise NoRows(at)
        number, tail, _ = FORMS[row[0]]
        argument = 0 if row[1] is None else row[1]
        found.extend([*extension_of(argument), number, argument & 255, *tail])
    return tuple(found)


def is_instruction(word, argument):
    """Whether a word may stand in rows with this argument."""
    if not isinstance(word, str) or word not in FORMS or word == "LOAD_CODE" or word == "LOAD_CLOSURE":
        return False
    if not takes_argument(word):
        return argument is None
    return isinstance(argument, int) and not isinstance(argument, bool) and 0 <= argument <= GREATEST_ARGUMENT
