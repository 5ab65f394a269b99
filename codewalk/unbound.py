"""Which locals of a code are loaded where they may have no value.

A set of locals is an integer with a bit for each of them. The instructions are gone through from the begin to the end,
again and again, as long as there are some at which fewer locals are bound than they were the last time.
"""

from codewalk.cases import parameters_in
from codewalk.encoding import PLAIN
from codewalk.words import LEAVING, QUIET


class Unbound:
    """The locals that are bound at each instruction of a case, as far as the ways are known."""

    def __init__(self, case):
        self.case = case
        self.wanted = wanted_in(case)
        # None where no way has led yet.
        self.bound = [None] * len(case.words)
        # The instructions that are to be gone through again.
        self.waiting = [False] * len(case.words)

    def first_lacking(self):
        """The number of the first instruction that loads a local which may have no value, or None."""
        if not self.wanted:
            return None
        self.lead(0, self.wanted & ((1 << parameters_in(self.case.code)) - 1))
        while self.sweep():
            pass
        for at, bound in enumerate(self.bound):
            if bound is not None and self.loads(at) & self.wanted & ~bound:
                return at
        return None

    def lead(self, at, bound):
        """Lead to an instruction with just these locals bound; whether that is news."""
        before = self.bound[at]
        if before is not None:
            bound &= before
            if bound == before:
                return False
        self.bound[at] = bound
        self.waiting[at] = True
        return True

    def sweep(self):
        """Go once through the instructions; whether there is news for some that have been passed by then."""
        case = self.case
        again = False
        for at, word in enumerate(case.words):
            if not self.waiting[at]:
                continue
            self.waiting[at] = False
            bound = self.bound[at]
            handler = case.handlers[at]
            if handler is not None and word not in QUIET:
                again = self.lead_far(handler[2], bound, at) or again
            action = CHANGES.get(word)
            if action is not None:
                bound = action(bound, case.arguments[at])
            if case.targets[at] is not None:
                again = self.lead_far(case.targets[at], bound, at) or again
            if word not in LEAVING:
                self.lead(at + 1, bound)
        return again

    def lead_far(self, offset, bound, source):
        """Lead to the instruction at an offset; whether that is news, and the instruction has been passed."""
        at = self.case.places[offset]
        return self.lead(at, bound) and at <= source

    def loads(self, at):
        """The locals that an instruction loads and that it has not stored just so."""
        argument = self.case.arguments[at]
        match self.case.words[at]:
            case "LOAD_FAST":
                return 1 << argument
            case "LOAD_FAST_LOAD_FAST":
                return 1 << (argument >> 4) | 1 << (argument & 15)
            case "STORE_FAST_LOAD_FAST":
                return 0 if argument >> 4 == argument & 15 else 1 << (argument & 15)
        return 0


def wanted_in(case):
    """The plain locals that are loaded, but for parameters that are never deleted."""
    loaded = {}
    deleted = {}
    for word, argument in zip(case.words, case.arguments):
        if word == "LOAD_FAST":
            loaded[argument] = True
        elif word == "LOAD_FAST_LOAD_FAST":
            loaded[argument >> 4] = True
            loaded[argument & 15] = True
        elif word == "STORE_FAST_LOAD_FAST":
            loaded[argument & 15] = True
        elif word == "DELETE_FAST":
            deleted[argument] = True
    many = parameters_in(case.code)
    kinds = case.code.kinds
    return sum([1 << slot for slot in loaded if kinds[slot] == PLAIN and (slot >= many or slot in deleted)])


def with_one(bound, slot):
    return bound | 1 << slot


def without_one(bound, slot):
    return bound & ~(1 << slot)


def with_first(bound, slots):
    return bound | 1 << (slots >> 4)


def with_two(bound, slots):
    return bound | 1 << (slots >> 4) | 1 << (slots & 15)


# The words behind which other locals are bound than ahead of them.
CHANGES = {
    "STORE_FAST": with_one, "LOAD_FAST_CHECK": with_one, "DELETE_FAST": without_one,
    "STORE_FAST_LOAD_FAST": with_first, "STORE_FAST_STORE_FAST": with_two,
}
