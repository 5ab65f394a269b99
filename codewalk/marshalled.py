"""Code objects as bytes, in the form of version 2 of CPython's marshal."""

from codewalk.codes import Code
from codewalk.errors import NoBytes, NoCode
from codewalk.letters import (
    BYTES, CODE, DIGIT, FALSE, FILE, GREATEST_SHORT, LEAST_SHORT, LONG, NONE, ROW, SHORT, TEXT, TRUE,
)
from codewalk.reading import Reader


def written(code):
    """The bytes of a code. Raises NoCode."""
    if not isinstance(code, Code):
        raise NoCode("code")
    found = []
    # What is still to be written, the next one last; codes and tuples may be nested deeper than calls.
    waiting = [(put_code, code)]
    while waiting:
        action, value = waiting.pop()
        action(found, value, waiting)
    return tuple(found)


def put_code(found, code, waiting):
    found.append(CODE)
    for number in (code.argcount, 0, code.onlycount, code.stacksize, code.flags):
        put_four(found, number)
    waiting.extend([
        (put_bytes, code.handlers), (put_bytes, code.lines), (put_number, code.line), (put_text, code.path),
        (put_text, code.name), (put_text, FILE), (put_bytes, code.kinds), (put_constant, code.slots),
        (put_constant, code.names), (put_constant, code.constants), (put_bytes, code.code),
    ])


def put_constant(found, value, waiting):
    if isinstance(value, tuple):
        found.append(ROW)
        put_four(found, len(value))
        waiting.extend([(put_constant, inner) for inner in reversed(value)])
    elif isinstance(value, Code):
        put_code(found, value, waiting)
    elif isinstance(value, str):
        put_text(found, value, waiting)
    elif value is None:
        found.append(NONE)
    elif isinstance(value, bool):
        found.append(TRUE if value else FALSE)
    else:
        put_integer(found, value)


def put_integer(found, value):
    if LEAST_SHORT <= value <= GREATEST_SHORT:
        found.append(SHORT)
        put_four(found, value)
        return
    digits = []
    rest = abs(value)
    while rest > 0:
        digits.append(rest & DIGIT)
        rest >>= 15
    found.append(LONG)
    put_four(found, len(digits) if value > 0 else -len(digits))
    for digit in digits:
        found.extend([digit & 255, digit >> 8])


def put_four(found, number):
    """Put a number of four bytes, the lowest first."""
    found.extend([number & 255, number >> 8 & 255, number >> 16 & 255, number >> 24 & 255])


def put_number(found, number, _):
    put_four(found, number)


def put_text(found, text, _):
    found.append(TEXT)
    put_four(found, len(text))
    found.extend([ord(character) for character in text])


def put_bytes(found, row, _):
    found.append(BYTES)
    put_four(found, len(row))
    found.extend(row)


def read(data):
    """The code that has been written to these bytes. Raises NoBytes."""
    if not isinstance(data, (list, tuple)):
        raise NoBytes(-1)
    for at, value in enumerate(data):
        if not isinstance(value, int) or isinstance(value, bool) or not 0 <= value <= 255:
            raise NoBytes(at)
    reader = Reader(data)
    code = reader.whole()
    if reader.at < len(data):
        raise NoBytes(reader.at)
    return code
