"""A code that is judged: its instructions, one list for each part of them, and where they lead."""

from codewalk.encoding import (
    CELL, FREE, FUNCTION, GENERATOR, NESTED, PARAMETER_CELL, PLAIN, WITH_MORE, WITH_REST,
)
from codewalk.words import LEADING

BACKWARD = {"JUMP_BACKWARD": True, "JUMP_BACKWARD_NO_INTERRUPT": True}


class Case:
    """A code whose bytes could be cut into instructions."""

    def __init__(self, code, begins, words, arguments):
        self.code = code
        self.begins = begins
        self.words = words
        self.arguments = arguments
        # The number of the instruction that begins at each offset.
        self.places = {begin: at for at, begin in enumerate(begins)}
        # Where jumps lead, in bytes.
        self.targets = [
            target_of(word, argument, end) if word in LEADING else None
            for word, argument, end in zip(words, arguments, [*begins[1:], len(code.code)])
        ]
        # The rows of the exception table, and the one of each instruction, when it is known to be a table.
        self.rows = []
        self.handlers = [None] * len(begins)

    def word_at(self, at):
        """The word of an instruction, or None where there is none."""
        return self.words[at] if 0 <= at < len(self.words) else None

    def led_to(self, at):
        """The number of the instruction to which a jump leads, or -1 if it leads to no begin of one."""
        return self.places.get(self.targets[at], -1)


def target_of(word, argument, end):
    return end - 2 * argument if word in BACKWARD else end + 2 * argument


def parameters_in(code):
    """How many locals of a code are parameters."""
    return code.argcount + code.onlycount + (1 if code.flags & WITH_REST else 0) + (1 if code.flags & WITH_MORE else 0)


def has_right_slots(code):
    """Whether the flags of a code and its locals, with their kinds, go together."""
    kinds = code.kinds
    if len(set(code.slots)) < len(code.slots):
        return False
    if code.flags == 0:
        return code.argcount == code.onlycount == 0 and kinds.count(FREE) == len(kinds)
    if code.flags & FUNCTION != FUNCTION or code.flags > FUNCTION + WITH_REST + WITH_MORE + NESTED + GENERATOR:
        return False
    many = parameters_in(code)
    if many > len(kinds) or kinds[:many].count(PLAIN) + kinds[:many].count(PARAMETER_CELL) < many:
        return False
    plain, cells, frees = kinds[many:].count(PLAIN), kinds[many:].count(CELL), kinds[many:].count(FREE)
    return kinds[many:] == (PLAIN,) * plain + (CELL,) * cells + (FREE,) * frees
