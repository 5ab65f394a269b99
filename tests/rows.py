"""Rows for the tests: written down shortly, looked up in what `generated` returns, and the heads of codes."""

import ast

from codewalk.generate import generated
from codewalk.scopes import settled

PLAIN_HEAD = ("function", "f", "f", 1, ((), (), None, None), (), (), 3)


def part(text):
    """A part of a row: what Python makes of the text, or else the text itself."""
    try:
        return ast.literal_eval(text)
    except (ValueError, SyntaxError):
        return text


def rows_of(text, line=1):
    """Rows in the notation of the document: one for each line or semicolon, `!` for an artificial one.

    A number with a colon ahead of a row is the line of it and of all further ones.
    """
    found = []
    for piece in text.replace(";", "\n").split("\n"):
        piece = piece.strip()
        if not piece:
            continue
        first, _, rest = piece.partition(" ")
        if first.endswith(":"):
            line = part(first[:-1])
            first, _, rest = rest.strip().partition(" ")
        bare = first.startswith("!") or first == "LABEL"
        argument = part(rest.strip()) if rest.strip() else None
        if first.lstrip("!") in ("LOAD_CONST", "RETURN_CONST") and not rest.strip():
            raise ValueError(piece)
        found.append((first.lstrip("!"), argument, None if bare else line))
    return found


def flow_rows(text):
    """Rows as `flowed` returns them: `word argument | line | handler`, nothing standing for None."""
    found = []
    for piece in text.strip().split("\n"):
        columns = [column.strip() for column in piece.split("|")] + ["", ""]
        word, _, argument = columns[0].partition(" ")
        line, handler = (part(column) if column else None for column in columns[1:3])
        found.append((word, part(argument.strip()) if argument.strip() else None, line, handler))
    return found


def body_of(tree, number=0):
    """The rows of a code without those of its begin and its end that each code of its sort has."""
    rows = generated(tree)[number]
    at = rows.index([row for row in rows if row[:2] == ("RESUME", 0)][0])
    if rows[-2:] == [("LOAD_CONST", None, None), ("RETURN_VALUE", None, None)]:
        rows = rows[:-2]
    return rows[at + 1:]


def heads_of(tree):
    """The heads of all codes of a program, with all parameters among the first names."""
    found = []
    for scope in settled(tree):
        cells = tuple(sorted([name for name, kind in scope.kinds.items() if kind == "cell"]))
        flags = 3 if scope.is_function() else 0
        found.append((scope.word, scope.name, scope.path, scope.line, (tuple(scope.parameters), (), None, None), cells,
                      tuple(sorted(scope.frees)), flags))
    return found
