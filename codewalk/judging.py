"""Which codes are right: those in which the machine can never go wrong."""

from codewalk.cases import Case, has_right_slots
from codewalk.codes import Code
from codewalk.cutting import cut
from codewalk.encoding import CELL, FREE, GENERATOR, PARAMETER_CELL
from codewalk.errors import NoCode, NoTable
from codewalk.fitting import BEHIND, first_unfit
from codewalk.passing import Passing
from codewalk.tables import exception_rows, line_rows
from codewalk.unbound import Unbound
from codewalk.words import LEAVING

# The words that stand at the begin of a code alone; of RESUME only the one with 0.
PREFIX = {"COPY_FREE_VARS": True, "MAKE_CELL": True, "RETURN_GENERATOR": True}


def judged(code):
    """"right", or what is wrong first, as a tuple (word, offset). Raises NoCode."""
    if not isinstance(code, Code):
        raise NoCode("code")
    begins, words, arguments, wrong = cut(code.code)
    if wrong is not None:
        return ("bytes", wrong)
    case = Case(code, begins, words, arguments)
    for look in STEPS:
        fault = look(case)
        if fault is not None:
            return fault
    return "right"


def look_at_table(case):
    try:
        case.rows = exception_rows(case.code)
    except NoTable:
        return ("table", 0)
    faults = []
    last = 0
    for begin, end, _, _, _ in case.rows:
        ends = end in case.places or end == len(case.code.code)
        if begin < last or begin >= end or begin not in case.places or not ends:
            faults.append(begin)
        last = end
    return ("table", min(faults)) if faults else None


def look_at_lines(case):
    try:
        rows = line_rows(case.code)
    except NoTable:
        return ("lines", 0)
    return None if rows and rows[-1][1] == len(case.code.code) else ("lines", 0)


def look_at_slots(case):
    return None if has_right_slots(case.code) else ("slots", 0)


def look_at_arguments(case):
    at = first_unfit(case)
    return None if at is None else ("argument", case.begins[at])


def look_at_jumps(case):
    prefix = len(prefix_of(case.code))
    leads = [(begin, target) for begin, target in zip(case.begins, case.targets) if target is not None]
    leads.extend([(begin, target) for begin, _, target, _, _ in case.rows])
    faults = [begin for begin, target in leads if is_barred(case, target, prefix)]
    return ("jump", min(faults)) if faults else None


def is_barred(case, target, prefix):
    """Whether nothing may lead to an offset; so many instructions are the prefix."""
    at = case.places.get(target)
    return at is None or at < prefix or case.words[at] in BEHIND


def prefix_of(code):
    """The words and arguments with which a code begins."""
    found = []
    frees = code.kinds.count(FREE)
    if frees > 0:
        found.append(("COPY_FREE_VARS", frees))
    found.extend([("MAKE_CELL", slot) for slot, kind in enumerate(code.kinds) if kind in (CELL, PARAMETER_CELL)])
    if code.flags & GENERATOR:
        found.extend([("RETURN_GENERATOR", 0), ("POP_TOP", 0)])
    found.append(("RESUME", 0))
    return found


def look_at_prefix(case):
    due = prefix_of(case.code)
    for at, (word, argument) in enumerate(due):
        if at == len(case.words):
            return ("end", case.begins[-1])
        if case.words[at] != word or case.arguments[at] != argument:
            return ("prefix", case.begins[at])
    for at in range(len(due), len(case.words)):
        word = case.words[at]
        if word in PREFIX or (word == "RESUME" and case.arguments[at] == 0):
            return ("prefix", case.begins[at])
    return None


def look_at_end(case):
    return None if case.words[-1] in LEAVING else ("end", case.begins[-1])


def look_at_ways(case):
    """Look at what lies on the stack along the ways, at the locals that are bound there, and at the stack size."""
    case.handlers = handlers_of(case)
    passing = Passing(case)
    fault = passing.first_fault()
    if fault is not None:
        return fault
    at = Unbound(case).first_lacking()
    if at is not None:
        return ("bound", case.begins[at])
    return None if case.code.stacksize == max(1, passing.greatest) else ("size", 0)


def handlers_of(case):
    """For each instruction the row of the exception table that it is in, or None."""
    found = []
    rows = case.rows
    at = 0
    for begin in case.begins:
        while at < len(rows) and rows[at][1] <= begin:
            at += 1
        found.append(rows[at] if at < len(rows) and rows[at][0] <= begin else None)
    return found


STEPS = (
    look_at_table, look_at_lines, look_at_slots, look_at_arguments, look_at_jumps, look_at_prefix, look_at_end,
    look_at_ways,
)
