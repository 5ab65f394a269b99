"""Codes made ready for the machine, and the frames that run them."""

from codewalk.cases import spread, target_of
from codewalk.codes import Code
from codewalk.cutting import cut
from codewalk.effects import VALUE_ACTIONS
from codewalk.encoding import COMPARISON_SIGNS, FREE, OPERATOR_SIGNS, TRUTH
from codewalk.moves import FRAME_ACTIONS
from codewalk.tables import exception_rows, line_rows
from codewalk.values import NEW, Nothing, Plan
from codewalk.words import LEADING

# The words that raise what has been raised before.
AGAIN = {"CLEANUP_THROW": True, "RERAISE": True}


class Program(Plan):
    """A code as a plan of functions; its instructions are made ready when a frame wants them first."""

    def __init__(self, code):
        taken = code.slots[:code.argcount + code.onlycount]
        Plan.__init__(self, code.name, code.path, code.flags, taken, code.argcount)
        self.code = code
        self.constants = []
        # For each instruction what it does, its argument made ready, and the line that it tells, or None.
        self.steps = []
        # Its line, whether it tells it or not.
        self.lines = []
        # Where an exception goes on, as a tuple (number, depth, whether the offset is wanted), or None.
        self.handlers = []
        # Whether an exception that comes out of it leaves no trace.
        self.silent = []

    def prepare(self):
        """Make the instructions ready, once."""
        if self.steps:
            return
        code = self.code
        self.constants = [Program(constant) if isinstance(constant, Code) else constant for constant in code.constants]
        instructions, _ = cut(code.code)
        places = {begin: at for at, (begin, _, _, _) in enumerate(instructions)}
        begins = [begin for begin, _, _, _ in instructions]
        self.lines = spread(line_rows(code), begins)
        self.handlers = spread([(begin, end, (places[target], depth, wanted)) for begin, end, target, depth, wanted
                                in exception_rows(code)], begins)
        told = told_lines(instructions, self.lines)
        for at, (_, word, argument, end) in enumerate(instructions):
            if word in LEADING:
                target = places[target_of(word, argument, end)]
                argument = (target, told[target] is not None) if word == "JUMP_BACKWARD" else target
            elif word in READY:
                make_ready = READY[word]
                argument = make_ready(self, argument)
            action = VALUE_ACTIONS[word] if word in VALUE_ACTIONS else FRAME_ACTIONS[word]
            self.steps.append((action, argument, told[at]))
            self.silent.append(word in AGAIN or (word == "RAISE_VARARGS" and argument == 0))


def told_lines(instructions, lines):
    """The lines of instructions behind the begin of a code, but for RESUME."""
    found = []
    begun = False
    for (_, word, argument, _), line in zip(instructions, lines):
        found.append(line if begun and word != "RESUME" else None)
        begun = begun or (word == "RESUME" and argument == 0)
    return found


def constant_of(program, argument):
    return program.constants[argument]


def name_of(program, argument):
    return program.code.names[argument]


def name_with_more(program, argument):
    return (program.code.names[argument >> 1], argument & 1 == 1)


def two_slots(program, argument):
    return (argument >> 4, argument & 15)


def cell_of(program, argument):
    """The slot of a cell, and what is raised if it has nothing."""
    return (argument, "NameError" if program.code.kinds[argument] == FREE else "UnboundLocalError")


def operator_of(program, argument):
    return OPERATOR_SIGNS[argument]


def comparison_of(program, argument):
    return COMPARISON_SIGNS[argument if argument in COMPARISON_SIGNS else argument - TRUTH]


def parting_of(program, argument):
    return (argument & 255, argument >> 8)


# What makes arguments ready that are used in another form than they are written in.
READY = {
    "LOAD_CONST": constant_of, "RETURN_CONST": constant_of, "DELETE_ATTR": name_of, "DELETE_GLOBAL": name_of,
    "DELETE_NAME": name_of, "LOAD_NAME": name_of, "STORE_ATTR": name_of, "STORE_GLOBAL": name_of,
    "STORE_NAME": name_of, "LOAD_ATTR": name_with_more, "LOAD_GLOBAL": name_with_more,
    "LOAD_FAST_LOAD_FAST": two_slots, "STORE_FAST_LOAD_FAST": two_slots, "STORE_FAST_STORE_FAST": two_slots,
    "LOAD_DEREF": cell_of, "STORE_DEREF": cell_of, "DELETE_DEREF": cell_of, "LOAD_FROM_DICT_OR_DEREF": cell_of,
    "BINARY_OP": operator_of, "COMPARE_OP": comparison_of, "UNPACK_EX": parting_of,
}


class Frame:
    """A frame of the machine."""

    def __init__(self, plan, values, names, cells):
        self.plan = plan
        self.path = plan.path
        self.stack = []
        # The number of the next instruction.
        self.at = 0
        self.locals = list(values) + [Nothing()] * (len(plan.code.slots) - len(values))
        self.names = names
        self.cells = cells
        self.told = None
        self.state = NEW
        # What has been yielded or returned last.
        self.value = None
        # Whether it rests in a yield from.
        self.delegates = False
