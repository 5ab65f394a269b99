"""Codes for the tests, put together instruction by instruction."""

from codewalk.codes import Code
from codewalk.judging import judged
from codewalk.tables import exception_bytes, line_bytes
from tests.opcodes import CACHES, NUMBERS, bytes_of

FIELDS = ("argcount", "onlycount", "stacksize", "flags", "code", "constants", "names", "slots", "kinds", "name", "path",
          "line", "lines", "handlers")


def changed(code, /, **fields):
    """A code with other fields."""
    return Code(**{**{field: getattr(code, field) for field in FIELDS}, **fields})


def codes_in(code):
    """A code and all codes in it."""
    return [code] + [inner for constant in code.constants if isinstance(constant, Code) for inner in codes_in(constant)]


class Text:
    """Instructions in a notation of their own, one for each line or semicolon.

    `WORD argument`, where the argument of a jump is a label; `label:` ahead of an instruction marks it. `at(label)` is
    where a label lies, in bytes.
    """

    def __init__(self, text):
        self.rows = []
        self.labels = {}
        for piece in text.replace("\n", ";").split(";"):
            words = piece.split()
            while words and words[0].endswith(":"):
                self.labels[words.pop(0)[:-1]] = len(self.rows)
            if words:
                self.rows.append((words[0], words[1] if len(words) > 1 else "0"))
        self.sizes = [0] * len(self.rows)
        while True:
            numbered = [(word, self.number(at, word, argument)) for at, (word, argument) in enumerate(self.rows)]
            sizes = [len(bytes_of([row])) for row in numbered]
            if sizes == self.sizes:
                break
            self.sizes = sizes
        self.numbered = numbered
        self.bytes = bytes_of(numbered)

    def begin(self, number):
        return sum(self.sizes[:number])

    def at(self, label):
        return self.begin(self.labels[label])

    def number(self, at, word, argument):
        if argument.isdigit():
            return int(argument)
        end = self.begin(at + 1)
        return abs(self.at(argument) - end) // 2


def made(text, handlers=(), lines=None, size=None, **fields):
    """A code of instructions, with the stack size that it needs.

    Rows of handlers are tuples (label, label, label, depth, bool); the lines are all 1 if there are no others.
    """
    made_text = Text(text) if isinstance(text, str) else text
    rows = [(made_text.at(begin), made_text.at(end) if end else len(made_text.bytes), made_text.at(target), depth, wanted)
            for begin, end, target, depth, wanted in handlers]
    if lines is None:
        lines = [(0, len(made_text.bytes), 1)]
    given = {
        "argcount": 0, "onlycount": 0, "stacksize": size or 1, "flags": 0, "code": made_text.bytes,
        "constants": (None, True, 7, "s", (1, 2)), "names": ("n", "m"), "slots": (), "kinds": (), "name": "f",
        "path": "f", "line": 1, "lines": line_bytes(lines, 1), "handlers": exception_bytes(rows), **fields,
    }
    code = Code(**given)
    while size is None and judged(code) == ("size", 0):
        code = changed(code, stacksize=code.stacksize + 1)
    return code


def as_words(code_bytes):
    """The words and arguments in bytes, EXTENDED_ARG by itself, without caches."""
    words = {number: word for word, number in NUMBERS.items()}
    found, at = [], 0
    while at < len(code_bytes):
        word = words[code_bytes[at]]
        found.append((word, code_bytes[at + 1]))
        at += 2 + 2 * CACHES.get(word, 0)
    return found
