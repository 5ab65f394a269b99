"""The two tables of a code: its exception handlers, and its lines. All numbers in them are in pieces of six bits."""

from codewalk.codes import Code
from codewalk.errors import NoCode, NoTable

# In a byte: an entry begins, or a number goes on.
BEGINS = 128
GOES_ON = 64

# The first byte of an entry, less the units: with a line, and without one.
WITH_LINE = 232
WITHOUT_LINE = 248
MOST_UNITS = 8

# From so many on, units are not written one entry after the other.
MANY_UNITS = 80


def exception_rows(code):
    """The rows (begin, end, target, depth, bool) of a code's exception table. Raises NoCode, NoTable."""
    if not isinstance(code, Code):
        raise NoCode("code")
    table = code.handlers
    found = []
    at = 0
    while at < len(table):
        begin, at = number_ahead(table, at, True)
        size, at = number_ahead(table, at, False)
        target, at = number_ahead(table, at, False)
        last, at = number_ahead(table, at, False)
        found.append((2 * begin, 2 * (begin + size), 2 * target, last >> 1, last & 1 == 1))
    return found


def number_ahead(table, at, begins):
    """The number that begins at a byte, the highest piece first, and the byte behind it. Raises NoTable."""
    first = at
    found = 0
    goes_on = True
    while goes_on:
        if at == len(table) or (table[at] >= BEGINS) != (begins and at == first):
            raise NoTable(at)
        goes_on = table[at] & GOES_ON != 0
        if at == first and goes_on and table[at] & 63 == 0:
            raise NoTable(at)
        found = found << 6 | table[at] & 63
        at += 1
    return (found, at)


def line_rows(code):
    """The rows (begin, end, line) of a code's line table, neighbours of one line as one. Raises NoCode, NoTable."""
    if not isinstance(code, Code):
        raise NoCode("code")
    lines = lines_of_units(code)
    found = []
    begin = 0
    for unit, line in enumerate(lines):
        if line != lines[begin]:
            found.append((2 * begin, 2 * unit, lines[begin]))
            begin = unit
    if lines:
        found.append((2 * begin, 2 * len(lines), lines[begin]))
    return found


def lines_of_units(code):
    """The line, or None, of each unit of two bytes, as the line table of a code tells it. Raises NoTable."""
    table = code.lines
    line = code.line
    found = []
    at = 0
    while at < len(table):
        first = table[at]
        at += 1
        if first >= WITHOUT_LINE:
            found.extend([None] * (first - WITHOUT_LINE + 1))
            continue
        if not WITH_LINE <= first < WITH_LINE + MOST_UNITS:
            raise NoTable(at - 1)
        if at < len(table) and table[at] < GOES_ON and not table[at] & 1:
            # As most numbers are.
            line += table[at] >> 1
            at += 1
        else:
            more, at = signed_number(table, at)
            line += more
        found.extend([line] * (first - WITH_LINE + 1))
    return found


def signed_number(table, at):
    """The signed number that begins at a byte, the lowest piece first, and the byte behind it. Raises NoTable."""
    first = at
    found = 0
    goes_on = True
    while goes_on:
        if at == len(table) or table[at] >= BEGINS:
            raise NoTable(at)
        goes_on = table[at] & GOES_ON != 0
        if not goes_on and table[at] == 0 and at > first:
            raise NoTable(at)
        found |= (table[at] & 63) << 6 * (at - first)
        at += 1
    if found == 1:
        # There is no zero below zero.
        raise NoTable(first)
    return (-(found >> 1) if found & 1 else found >> 1, at)


def joined(rows):
    """Rows of lines, one behind the other, with neighbours of one line as one."""
    found = []
    for begin, end, line in rows:
        if found and found[-1][2] == line:
            found[-1] = (found[-1][0], end, line)
        else:
            found.append((begin, end, line))
    return found


def exception_bytes(rows):
    """The exception table with these rows."""
    found = []
    for begin, end, target, depth, wanted in rows:
        number = pieces_of(begin // 2)
        found.append(number[0] | BEGINS)
        found.extend(number[1:])
        found.extend(pieces_of((end - begin) // 2))
        found.extend(pieces_of(target // 2))
        found.extend(pieces_of(2 * depth + (1 if wanted else 0)))
    return tuple(found)


def pieces_of(number):
    """The bytes of a number, the highest piece first."""
    found = [number & 63]
    number >>= 6
    while number > 0:
        found.append(number & 63 | GOES_ON)
        number >>= 6
    found.reverse()
    return found


def line_bytes(rows, line):
    """The line table with these rows, of a code with this first line."""
    return tuple(line_entries(joined(rows), line))


def line_entries(rows, line):
    """The bytes of the same, neighbours of one line being joined already."""
    found = []
    for begin, end, told in rows:
        units = (end - begin) // 2
        more = -1 if told is None else told - line
        if 0 <= more < 32 and 0 < units < MANY_UNITS:
            # As most are.
            line = told
            while units > MOST_UNITS:
                found.append(WITH_LINE + MOST_UNITS - 1)
                found.append(2 * more)
                more = 0
                units -= MOST_UNITS
            found.append(WITH_LINE + units - 1)
            found.append(2 * more)
        elif units:
            found.extend(entries_of(units, None if told is None else signed_pieces(more)))
            line = line if told is None else told
    return found


def entries_of(units, pieces):
    """The bytes of so many units, with the bytes of how much greater their line is, or with None for no line."""
    # The entries ahead of the last one have as many units as there may be.
    whole = (units - 1) // MOST_UNITS
    last = units - MOST_UNITS * whole - 1
    if pieces is None:
        return [WITHOUT_LINE + MOST_UNITS - 1] * whole + [WITHOUT_LINE + last]
    if whole == 0:
        return [WITH_LINE + last, *pieces]
    full = WITH_LINE + MOST_UNITS - 1
    return [full, *pieces, *([full, 0] * (whole - 1)), WITH_LINE + last, 0]


def signed_pieces(number):
    """The bytes of a signed number, the lowest piece first."""
    rest = 2 * number if number >= 0 else -2 * number + 1
    if rest < 64:
        return [rest]
    found = []
    while rest > 63:
        found.append(rest & 63 | GOES_ON)
        rest >>= 6
    found.append(rest)
    return found
