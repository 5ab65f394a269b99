"""Reading codes from bytes."""

from codewalk.codes import BARRED, Code, DEEPEST
from codewalk.errors import NoBytes
from codewalk.letters import (
    BYTES, CODE, FALSE, FILE, GREATEST_SHORT, LEAST_SHORT, LONG, NONE, ROW, SHORT, TEXT, TRUE,
)


class Open:
    """A code or a tuple of constants of which not all has been read: the parts so far, and how many there will be."""

    def __init__(self, letter, many, codes, rows):
        self.letter = letter
        self.many = many
        self.parts = []
        # How many codes, and how many tuples within the constants of the last one, are open with this one.
        self.codes = codes
        self.rows = rows


class Reader:
    """Bytes, and where they are read. Codes and tuples may be nested deeper than calls, so what is open is kept."""

    def __init__(self, data):
        self.data = data
        self.at = 0
        self.opened = []

    def whole(self):
        """The code that begins here."""
        begin = self.at
        if self.next_letter() != CODE:
            raise NoBytes(begin)
        last = self.start(CODE, len(PARTS), 1, 0)
        while self.opened:
            thing = self.opened[-1]
            if len(thing.parts) < thing.many:
                action = PARTS[len(thing.parts)] if thing.letter == CODE else read_constant
                action(self, thing)
                continue
            last = self.opened.pop()
            if self.opened:
                self.opened[-1].parts.append(built(last))
        return built(last)

    def start(self, letter, many, codes, rows):
        thing = Open(letter, many, codes, rows)
        self.opened.append(thing)
        return thing

    def next_letter(self):
        if self.at == len(self.data):
            raise NoBytes(self.at)
        self.at += 1
        return self.data[self.at - 1]

    def cut(self, many):
        """So many bytes."""
        begin = self.at
        if begin + many > len(self.data):
            raise NoBytes(len(self.data))
        self.at = begin + many
        return self.data[begin:self.at]

    def four(self):
        """A number of four bytes, the lowest first."""
        first, second, third, last = self.cut(4)
        return first + 256 * (second + 256 * (third + 256 * (last if last < 128 else last - 256)))

    def length(self, begin):
        """The length of the element that begins there."""
        found = self.four()
        if found < 0:
            raise NoBytes(begin)
        return found


def built(thing):
    """The tuple or the code that has been read."""
    if thing.letter == ROW:
        return tuple(thing.parts)
    argcount, _, onlycount, stacksize, flags, code, constants, names, slots, kinds = thing.parts[:10]
    _, name, path, line, lines, handlers = thing.parts[10:]
    return Code(argcount, onlycount, stacksize, flags, code, constants, names, slots, kinds, name, path, line, lines,
                handlers)


def read_number(reader, thing):
    begin = reader.at
    number = reader.four()
    if number < 0:
        raise NoBytes(begin)
    thing.parts.append(number)


def read_zero(reader, thing):
    begin = reader.at
    if reader.four() != 0:
        raise NoBytes(begin)
    thing.parts.append(0)


def read_bytes(reader, thing):
    begin = reader.at
    if reader.next_letter() != BYTES:
        raise NoBytes(begin)
    thing.parts.append(tuple(reader.cut(reader.length(begin))))


def read_kinds(reader, thing):
    begin = reader.at
    slots = thing.parts[-1]
    read_bytes(reader, thing)
    if len(thing.parts[-1]) != len(slots):
        raise NoBytes(begin)


def read_text(reader, thing):
    begin = reader.at
    if reader.next_letter() != TEXT:
        raise NoBytes(begin)
    thing.parts.append(text_behind(reader, begin))


def read_file(reader, thing):
    begin = reader.at
    read_text(reader, thing)
    if thing.parts[-1] != FILE:
        raise NoBytes(begin)


def text_behind(reader, begin):
    """The text whose letter has been read."""
    characters = reader.cut(reader.length(begin))
    for character in characters:
        if not 32 <= character <= 126 or character == BARRED:
            raise NoBytes(begin)
    return "".join([CHARACTERS[character - 32] for character in characters])


def read_texts(reader, thing):
    begin = reader.at
    if reader.next_letter() != ROW:
        raise NoBytes(begin)
    row = Open(ROW, reader.length(begin), 0, 0)
    while len(row.parts) < row.many:
        read_text(reader, row)
    thing.parts.append(tuple(row.parts))


def read_constants(reader, thing):
    begin = reader.at
    if reader.next_letter() != ROW:
        raise NoBytes(begin)
    reader.start(ROW, reader.length(begin), thing.codes, 0)


def read_constant(reader, thing):
    """Read an element of a tuple of constants, or begin with it."""
    begin = reader.at
    letter = reader.next_letter()
    if letter == CODE:
        # Codes stand among the constants alone, not within tuples there.
        if thing.rows > 0 or thing.codes == DEEPEST:
            raise NoBytes(begin)
        reader.start(CODE, len(PARTS), thing.codes + 1, 0)
    elif letter == ROW:
        if thing.rows == DEEPEST:
            raise NoBytes(begin)
        reader.start(ROW, reader.length(begin), thing.codes, thing.rows + 1)
    elif letter == TEXT:
        thing.parts.append(text_behind(reader, begin))
    elif letter == SHORT:
        thing.parts.append(reader.four())
    elif letter == LONG:
        thing.parts.append(long_behind(reader, begin))
    elif letter == NONE:
        thing.parts.append(None)
    elif letter == TRUE or letter == FALSE:
        thing.parts.append(letter == TRUE)
    else:
        raise NoBytes(begin)


def long_behind(reader, begin):
    """The integer with digits whose letter has been read."""
    many = reader.four()
    digits = reader.cut(2 * abs(many))
    found = 0
    for at in range(len(digits) - 1, -1, -2):
        if digits[at] > 127:
            raise NoBytes(begin)
        found = found << 15 | digits[at] << 8 | digits[at - 1]
    if many < 0:
        found = -found
    if LEAST_SHORT <= found <= GREATEST_SHORT or digits[-1] == digits[-2] == 0:
        raise NoBytes(begin)
    return found


# What reads each part of a code behind its letter.
PARTS = (
    read_number, read_zero, read_number, read_number, read_number, read_bytes, read_constants, read_texts, read_texts,
    read_kinds, read_file, read_text, read_text, read_number, read_bytes, read_bytes,
)

# The characters from the space on; the place of the one that no string has is taken by a space.
CHARACTERS = (
    " !\"#$ &'()*+,-./0123456789:;<=>?@ABCDEFGHIJKLMNOPQRSTUVWXYZ[\\]^_`abcdefghijklmnopqrstuvwxyz{|}~"
)
