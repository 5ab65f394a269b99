"""Instructions told one by one, and the bytes of such."""

from codewalk.arguments import FORMS
from codewalk.cases import target_of
from codewalk.codes import Code
from codewalk.cutting import cut
from codewalk.encoding import EXTENDED_ARG, FIRST_WITH_ARGUMENT
from codewalk.errors import NoCode, NoRows, NoTable
from codewalk.layout import extension_of
from codewalk.meanings import MEANINGS
from codewalk.tables import lines_of_units
from codewalk.words import LEADING

GREATEST_ARGUMENT = 4294967295


def instructions(code):
    """The instructions of a code as tuples (offset, word, argument, meaning, line). Raises NoCode."""
    if not isinstance(code, Code):
        raise NoCode("code")
    data = code.code
    begins, words, arguments, wrong = cut(data)
    if wrong is not None:
        raise NoCode("code")
    lines = lines_of(code)
    told = []
    for begin, word, argument, end in zip(begins, words, arguments, [*begins[1:], len(data)]):
        line = lines[begin // 2]
        number = data[begin]
        while number == EXTENDED_ARG:
            told.append((begin, "EXTENDED_ARG", data[begin + 1], "", line))
            begin += 2
            number = data[begin]
            line = lines[begin // 2]
        if number < FIRST_WITH_ARGUMENT:
            told.append((begin, word, None, "", line))
        else:
            told.append((begin, word, argument, meaning_of(code, word, argument, end), line))
    return told


def lines_of(code):
    """The line of each unit of a code, or None where its line table tells none, or is no table."""
    try:
        found = lines_of_units(code)
    except NoTable:
        found = []
    return found + [None] * (len(code.code) // 2 - len(found))


def takes_argument(word):
    number, _, _ = FORMS[word]
    return number >= FIRST_WITH_ARGUMENT


def meaning_of(code, word, argument, end):
    if word in LEADING:
        return f"to {target_of(word, argument, end)}"
    if word not in MEANINGS:
        return ""
    tell = MEANINGS[word]
    meaning = tell(code, argument)
    if meaning is None:
        raise NoCode("code")
    return meaning


def bytes_of(rows):
    """The bytes of rows (word, argument), with caches and EXTENDED_ARG. Raises NoRows."""
    if not isinstance(rows, (list, tuple)):
        raise NoRows(-1)
    found = []
    for at, row in enumerate(rows):
        if not isinstance(row, tuple) or len(row) != 2 or not is_instruction(row[0], row[1]):
            raise NoRows(at)
        number, tail, _ = FORMS[row[0]]
        argument = 0 if row[1] is None else row[1]
        found.extend([*extension_of(argument), number, argument & 255, *tail])
    return tuple(found)


def is_instruction(word, argument):
    """Whether a word may stand in rows with this argument."""
    if not isinstance(word, str) or word not in FORMS or word == "LOAD_CODE" or word == "LOAD_CLOSURE":
        return False
    if not takes_argument(word):
        return argument is None
    return isinstance(argument, int) and not isinstance(argument, bool) and 0 <= argument <= GREATEST_ARGUMENT
