"""Codes made ready for the machine, and the frames that run them."""

from codewalk.codes import Code
from codewalk.effects import (
    call, call_by_names, call_with_rows, compare, get_attribute, load_assertion_error, load_builder, look_inside,
    look_whether_one, nothing, push_null,
)
from codewalk.encoding import COMPARISON_SIGNS, EXTENDED_ARG, FREE, GENERATOR, OPERATOR_SIGNS, TRUTH
from codewalk.moves import (
    catch, copy_cells, delete_deref, delete_fast, delete_global, delete_name, end, end_send, end_throw, enter_context,
    give, give_back, jump, jump_backward, jump_if_false, jump_if_none, jump_if_not_none, jump_if_true, load_deref,
    load_fast, load_fast_check, load_from_names, load_global, load_locals, load_name, load_two, make_cell,
    make_function, make_generator, pop_handled, push_handled, send, set_attribute, start_exit, store_and_load,
    store_deref, store_fast, store_global, store_name, store_two, throw, throw_again, turn,
)
from codewalk.stacks import (
    add_pair, append_to_list, build_dict, build_dict_by_keys, build_list, build_tuple, change_kind, copy_entry,
    drop_attribute, drop_element, extend_list, get_element, get_iterator, get_slice, get_source, invert, invert_bool,
    merge, negate, operate_on_two, pop_top, put_attribute, put_element, put_slice, put_value, swap, to_bool, unpack,
    unpack_with_list,
)
from codewalk.tables import exception_rows, lines_of_units
from codewalk.values import NEW, Nothing, Plan

RESUME = 149

# The numbers of words that raise what has been raised before; the last one does so with 0 alone.
CLEANUP_THROW = 8
RERAISE = 102
RAISE_VARARGS = 101


class Program(Plan):
    """A code as a plan of functions; its instructions are made ready when a frame wants them first.

    Instructions are numbered by units of two bytes, so that some numbers are none of an instruction.
    """

    def __init__(self, code):
        taken = code.slots[:code.argcount + code.onlycount]
        Plan.__init__(self, code.name, code.path, code.flags, taken, code.argcount)
        self.code = code
        self.constants = []
        # Tuples: what an instruction does, its argument made ready, the line that it tells, or None, and the next one.
        self.steps = []
        # The line of each unit, and the line that an instruction tells there.
        self.lines = []
        self.told = []
        # Where an exception goes on, as a tuple (number, depth, whether the offset is wanted), or None.
        self.handlers = []

    def prepare(self):
        """Make the instructions ready."""
        code = self.code
        self.constants = [Program(constant) if isinstance(constant, Code) else constant for constant in code.constants]
        self.lines = lines_of_units(code)
        self.told = told_lines(code, self.lines)
        if code.handlers:
            self.handlers = handlers_of_units(code)
        self.steps = self.made_ready(code.code[::2], code.code[1::2])

    def made_ready(self, numbers, arguments):
        """The steps of units with these bytes."""
        told = self.told
        size = len(numbers)
        steps = [None] * size
        at = 0
        while at < size:
            begin = at
            argument = arguments[at]
            while numbers[at] == EXTENDED_ARG:
                at += 1
                argument = argument << 8 | arguments[at]
            action, ready, units = STEPS[numbers[at]]
            at += units
            if ready is not None:
                argument = ready(self, argument, at)
            steps[begin] = (action, argument, told[begin], at)
        return steps

    def is_silent(self, at):
        """Whether an exception that comes out of an instruction leaves no trace."""
        number, argument = self.code.code[2 * at:2 * at + 2]
        return number == RERAISE or number == CLEANUP_THROW or (number == RAISE_VARARGS and argument == 0)


def told_lines(code, lines):
    """The lines of units behind the begin of a code, but for RESUME."""
    numbers = code.code[::2]
    begun = numbers.index(RESUME) + 1 if RESUME in numbers else len(numbers)
    told = [None] * begun + lines[begun:]
    if code.flags & GENERATOR:
        return [None if number == RESUME else line for number, line in zip(numbers, told)]
    return told


def handlers_of_units(code):
    """The handler of each unit, or None."""
    found = [None] * (len(code.code) // 2)
    for begin, end_of_row, target, depth, wanted in exception_rows(code):
        many = (end_of_row - begin) // 2
        found[begin // 2:end_of_row // 2] = [(target // 2, depth, wanted)] * many
    return found


def constant_of(program, argument, _):
    return program.constants[argument]


def name_of(program, argument, _):
    return program.code.names[argument]


def name_with_more(program, argument, _):
    return (program.code.names[argument >> 1], argument & 1 == 1)


def two_slots(_, argument, at):
    return (argument >> 4, argument & 15)


def cell_of(program, argument, _):
    """The slot of a cell, and what is raised if it has nothing."""
    return (argument, "NameError" if program.code.kinds[argument] == FREE else "UnboundLocalError")


def operator_of(_, argument, at):
    return OPERATOR_SIGNS[argument]


def comparison_of(_, argument, at):
    return COMPARISON_SIGNS[argument if argument in COMPARISON_SIGNS else argument - TRUTH]


def parting_of(_, argument, at):
    return (argument & 255, argument >> 8)


def ahead(_, argument, at):
    """Where a jump leads that has its end here."""
    return at + argument


def back(_, argument, at):
    return at - argument


def back_with_line(program, argument, at):
    """The same, and whether there is a line that is told once more."""
    return (at - argument, program.told[at - argument] is not None)


# For each number what is done, what makes the argument ready if it is used in another form, and the units of these.
STEPS = {
    2: (enter_context, None, 1), 4: (get_slice, None, 1), 5: (get_element, None, 2), 7: (catch, None, 1),
    8: (end_throw, None, 1), 9: (drop_element, None, 1), 11: (pop_top, None, 1), 12: (end_send, None, 1),
    19: (get_iterator, None, 1), 21: (get_source, None, 1), 23: (load_assertion_error, None, 1),
    24: (load_builder, None, 1), 25: (load_locals, None, 1), 26: (make_function, None, 1), 30: (nothing, None, 1),
    31: (pop_handled, None, 1), 32: (pop_top, None, 1), 33: (push_handled, None, 1), 34: (push_null, None, 1),
    35: (make_generator, None, 1), 36: (end, None, 1), 38: (put_slice, None, 1), 39: (put_element, None, 2),
    40: (to_bool, None, 4), 41: (invert, None, 1), 42: (negate, None, 1), 43: (invert_bool, None, 1),
    44: (start_exit, None, 1), 45: (operate_on_two, operator_of, 2), 46: (build_dict_by_keys, None, 1),
    47: (build_list, None, 1), 48: (build_dict, None, 1), 52: (build_tuple, None, 1), 53: (call, None, 4),
    54: (call_with_rows, None, 1), 55: (change_kind, None, 1), 57: (call_by_names, None, 1),
    58: (compare, comparison_of, 2), 59: (look_inside, None, 2), 61: (copy_entry, None, 1), 62: (copy_cells, None, 1),
    63: (drop_attribute, name_of, 1), 64: (delete_deref, cell_of, 1), 65: (delete_fast, None, 1),
    66: (delete_global, name_of, 1), 67: (delete_name, name_of, 1), 68: (merge, None, 1), 72: (turn, ahead, 2),
    76: (look_whether_one, None, 1), 77: (jump_backward, back_with_line, 2), 78: (jump, back, 1), 79: (jump, ahead, 1),
    80: (append_to_list, None, 1), 81: (extend_list, None, 1), 82: (get_attribute, name_with_more, 10),
    83: (put_value, constant_of, 1), 84: (load_deref, cell_of, 1), 85: (load_fast, None, 1),
    87: (load_fast_check, None, 1), 88: (load_two, two_slots, 1), 89: (load_from_names, cell_of, 1),
    91: (load_global, name_with_more, 5), 92: (load_name, name_of, 1), 94: (make_cell, None, 1),
    95: (add_pair, None, 1), 97: (jump_if_false, ahead, 2), 98: (jump_if_none, ahead, 2),
    99: (jump_if_not_none, ahead, 2), 100: (jump_if_true, ahead, 2), 101: (throw, None, 1), 102: (throw_again, None, 1),
    103: (give_back, constant_of, 1), 104: (send, ahead, 2), 106: (set_attribute, None, 1),
    108: (put_attribute, name_of, 5), 109: (store_deref, cell_of, 1), 110: (store_fast, None, 1),
    111: (store_and_load, two_slots, 1), 112: (store_two, two_slots, 1), 113: (store_global, name_of, 1),
    114: (store_name, name_of, 1), 115: (swap, None, 1), 116: (unpack_with_list, parting_of, 1), 117: (unpack, None, 2),
    118: (give, None, 1), 149: (nothing, None, 1),
}


class Frame:
    """A frame of the machine."""

    def __init__(self, plan, values, names, cells):
        self.plan = plan
        self.path = plan.path
        self.stack = []
        # The number of the next instruction.
        self.at = 0
        self.locals = list(values)
        if len(values) < len(plan.code.slots):
            self.locals.extend([Nothing()] * (len(plan.code.slots) - len(values)))
        self.names = names
        self.cells = cells
        self.told = None
        self.state = NEW
        # What has been yielded or returned last.
        self.value = None
        # Whether it rests in a yield from.
        self.delegates = False
