"""The assembly of section 9 as the document tells it, sentence by sentence, without a care for time.

The tests compare the program with it.
"""

import itertools

from codewalk.codes import Code
from tests.flow_by_the_book import LOCALS, QUIET, effect
from tests.opcodes import CACHES, NUMBERS

BINARY = {"+": 0, "&": 1, "//": 2, "<<": 3, "*": 5, "mod": 6, "|": 7, "**": 8, ">>": 9, "-": 10, "^": 12}
COMPARE = {"<": 2, "<=": 42, "==": 72, "!=": 103, ">": 132, ">=": 172}
PAIRS = ("LOAD_FAST_LOAD_FAST", "STORE_FAST_LOAD_FAST", "STORE_FAST_STORE_FAST")
NAMED = ("DELETE_ATTR", "DELETE_GLOBAL", "DELETE_NAME", "LOAD_NAME", "STORE_ATTR", "STORE_GLOBAL", "STORE_NAME")
JUMPS = ("FOR_ITER", "SEND", "JUMP_FORWARD", "JUMP_BACKWARD", "JUMP_BACKWARD_NO_INTERRUPT", "POP_JUMP_IF_FALSE",
         "POP_JUMP_IF_TRUE", "POP_JUMP_IF_NONE", "POP_JUMP_IF_NOT_NONE")
LAST = ("JUMP_FORWARD", "JUMP_BACKWARD", "JUMP_BACKWARD_NO_INTERRUPT", "RETURN_VALUE", "RETURN_CONST",
        "RAISE_VARARGS", "RERAISE")


def parameters(head):
    names, only, rest, more = head[4]
    return [*names, *only] + [name for name in (rest, more) if name is not None]


def local_names(rows, head):
    found = parameters(head)
    shared = [*head[5], *head[6]]
    for word, argument, _, _ in rows:
        named = [argument] if word in LOCALS else list(argument) if word in PAIRS else []
        found += [name for name in dict.fromkeys(named) if name not in found and name not in shared]
    return found + [name for name in shared if name not in found]


def kind(name, head):
    if name in head[5]:
        return 96 if name in parameters(head) else 64
    return 128 if name in head[6] else 32


def same(one, other):
    """Whether two constants are the same."""
    if type(one) is not type(other):
        return False
    if isinstance(one, tuple):
        return len(one) == len(other) and all(same(left, right) for left, right in zip(one, other))
    return one == other


class Assembly:
    def __init__(self, rows, head, codes):
        self.rows, self.head, self.codes = rows, head, codes
        self.slots = local_names(rows, head)
        # Constants, and for codes their numbers.
        self.constants = [("constant", None)] if head[0] in ("function", "lambda") else []
        self.names = []
        for word, argument, _, _ in rows:
            if word in ("LOAD_CONST", "RETURN_CONST") and self.constant(argument) is None:
                self.constants.append(("constant", argument))
            if word == "LOAD_CODE" and ("code", argument) not in self.constants:
                self.constants.append(("code", argument))
            name = argument if word in NAMED else argument[0] if word in ("LOAD_GLOBAL", "LOAD_ATTR") else None
            if name is not None and name not in self.names:
                self.names.append(name)
        # How many bytes the argument of each row has, and where each row begins, in units.
        self.widths = [1] * len(rows)
        self.places = {row[1]: at for at, row in enumerate(rows) if row[0] == "LABEL"}
        self.begins = None
        self.settle()

    def constant(self, value):
        for at, (word, known) in enumerate(self.constants):
            if word == "constant" and same(known, value):
                return at
        return None

    def argument(self, at):
        word, argument, _, _ = self.rows[at]
        if word in ("LOAD_CONST", "RETURN_CONST"):
            return self.constant(argument)
        if word == "LOAD_CODE":
            return self.constants.index(("code", argument))
        if word in NAMED:
            return self.names.index(argument)
        if word in ("LOAD_GLOBAL", "LOAD_ATTR"):
            return 2 * self.names.index(argument[0]) + argument[1]
        if word in LOCALS:
            return self.slots.index(argument)
        if word in PAIRS:
            return 16 * self.slots.index(argument[0]) + self.slots.index(argument[1])
        if word == "BINARY_OP":
            return BINARY[argument[:-1]] + 13 if argument.endswith("=") else BINARY[argument]
        if word == "COMPARE_OP":
            return COMPARE[argument[0]] + 16 * argument[1]
        if word == "UNPACK_EX":
            return argument[0] + 256 * argument[1]
        if word in JUMPS:
            return abs(self.begin(self.place(argument)) - self.begin(at + 1))
        return 0 if argument is None else argument

    def place(self, label):
        return self.places[label]

    def units(self, at):
        word = self.rows[at][0]
        return 0 if word == "LABEL" else self.widths[at] + CACHES.get(self.written(word), 0)

    def begin(self, at):
        if self.begins is None:
            self.begins = [0, *itertools.accumulate(self.units(ahead) for ahead in range(len(self.rows)))]
        return self.begins[at]

    def written(self, word):
        return {"LOAD_CODE": "LOAD_CONST", "LOAD_CLOSURE": "LOAD_FAST"}.get(word, word)

    def settle(self):
        changed = True
        while changed:
            changed = False
            for at, (word, _, _, _) in enumerate(self.rows):
                if word != "LABEL":
                    many = max(1, (self.argument(at).bit_length() + 7) // 8)
                    if many > self.widths[at]:
                        self.widths[at] = many
                        self.begins = None
                        changed = True

    def bytes(self):
        found = []
        for at, (word, _, _, _) in enumerate(self.rows):
            if word != "LABEL":
                *higher, lowest = self.argument(at).to_bytes(self.widths[at], "big")
                for byte in higher:
                    found += [71, byte]
                found += [NUMBERS[self.written(word)], lowest] + [0, 0] * CACHES.get(self.written(word), 0)
        return found

    def stack_size(self):
        greatest, known, todo = 1, set(), [(0, 0)]
        while todo:
            at, depth = todo.pop()
            if at in known:
                continue
            known.add(at)
            word, argument, _, handler = self.rows[at]
            if handler and word != "LABEL" and word not in QUIET + PAIRS + JUMPS[2:] + ("RETURN_CONST",):
                todo.append((self.place(handler[0]), handler[1] + handler[2] + 1))
            depth += row_effect(word, argument)
            if word in JUMPS:
                todo.append((self.place(argument), depth))
            if word not in LAST:
                todo.append((at + 1, depth))
            greatest = max([greatest] + [behind for _, behind in todo])
        return greatest

    def stretches(self, part):
        """The stretches (begin, end, part) of rows with the same part, in units."""
        found = []
        for at, row in enumerate(self.rows):
            if row[0] != "LABEL":
                begin, end = self.begin(at), self.begin(at + 1)
                if found and found[-1][1:] == (begin, row[part]):
                    found[-1] = (found[-1][0], end, row[part])
                else:
                    found.append((begin, end, row[part]))
        return found

    def handlers(self):
        found = []
        for begin, end, handler in self.stretches(3):
            if handler is not None:
                label, depth, wanted = handler
                numbers = (begin, end - begin, self.begin(self.place(label)), 2 * depth + wanted)
                for at, number in enumerate(numbers):
                    pieces = high_pieces(number)
                    pieces = [piece | 64 for piece in pieces[:-1]] + pieces[-1:]
                    if at == 0:
                        pieces[0] |= 128
                    found += pieces
        return found

    def lines(self):
        found, before = [], self.head[3]
        for begin, end, line in self.stretches(2):
            while begin < end:
                units = min(8, end - begin)
                begin += units
                if line is None:
                    found.append(128 + 15 * 8 + units - 1)
                    continue
                number = line - before
                before = line
                pieces = high_pieces(2 * number if number >= 0 else 2 * -number + 1)[::-1]
                found += [128 + 13 * 8 + units - 1] + [piece | 64 for piece in pieces[:-1]] + pieces[-1:]
        return found

    def code(self):
        word, name, path, line, taken, _, _, flags = self.head
        constants = [self.codes[value] if word == "code" else value for word, value in self.constants]
        return Code(len(taken[0]), len(taken[1]), self.stack_size(), flags, self.bytes(), constants, self.names,
                    self.slots, [kind(name, self.head) for name in self.slots], name, path, line, self.lines(),
                    self.handlers())


def row_effect(word, argument):
    pairs = {"LOAD_FAST_LOAD_FAST": 2, "STORE_FAST_LOAD_FAST": 0, "STORE_FAST_STORE_FAST": -2}
    if word in pairs:
        return pairs[word]
    return 0 if word.startswith("JUMP_") else effect(word, argument)


def high_pieces(number):
    """Pieces of six bits, the highest first, as few as the number needs."""
    found = [number % 64]
    while number >= 64:
        number //= 64
        found.insert(0, number % 64)
    return found


def assembled(rows, head, codes=()):
    return Assembly(rows, head, codes).code()
