"""Going along the ways through a code, to see what lies on its stack."""

from heapq import heappop, heappush

from codewalk.kinds import DEPTH, EFFECTS, met, take
from codewalk.words import LEAVING, QUIET

# What other words take, the top one first, what they leave, and how many of the first still lie there.
SIMPLE = {
    "BEFORE_WITH": (("value",), ("value", "value"), 0), "BINARY_OP": (("value", "value"), ("value",), 0),
    "BINARY_SLICE": (("value", "value", "value"), ("value",), 0), "BINARY_SUBSCR": (("value", "value"), ("value",), 0),
    "CHECK_EXC_MATCH": (("value", "exception"), ("exception", "bool"), 1),
    "CLEANUP_THROW": (("exception", "value", "value"), ("value", "value"), 0),
    "CONTAINS_OP": (("value", "value"), ("bool",), 0), "COPY_FREE_VARS": ((), (), 0),
    "DELETE_ATTR": (("value",), (), 0), "DELETE_DEREF": ((), (), 0),
    "DELETE_FAST": ((), (), 0), "DELETE_GLOBAL": ((), (), 0), "DELETE_NAME": ((), (), 0),
    "DELETE_SUBSCR": (("value", "value"), (), 0), "END_FOR": (("null",), (), 0),
    "END_SEND": (("value", "value"), ("value",), 0), "FOR_ITER": (("iterator",), ("iterator", "value"), 1),
    "GET_ITER": (("value",), ("iterator",), 0), "GET_YIELD_FROM_ITER": (("value",), ("source",), 0),
    "IS_OP": (("value", "value"), ("bool",), 0), "JUMP_BACKWARD": ((), (), 0),
    "JUMP_BACKWARD_NO_INTERRUPT": ((), (), 0), "JUMP_FORWARD": ((), (), 0), "LOAD_ASSERTION_ERROR": ((), ("value",), 0),
    "LOAD_BUILD_CLASS": ((), ("value",), 0), "LOAD_DEREF": ((), ("value",), 0), "LOAD_FAST_CHECK": ((), ("value",), 0),
    "LOAD_FAST_LOAD_FAST": ((), ("value", "value"), 0), "LOAD_FROM_DICT_OR_DEREF": (("value",), ("value",), 0),
    "LOAD_LOCALS": ((), ("value",), 0), "LOAD_NAME": ((), ("value",), 0), "MAKE_CELL": ((), (), 0),
    "MAKE_FUNCTION": (("value",), ("function",), 0), "NOP": ((), (), 0), "POP_EXCEPT": (("handled",), (), 0),
    "POP_JUMP_IF_FALSE": (("bool",), (), 0), "POP_JUMP_IF_NONE": (("value",), (), 0),
    "POP_JUMP_IF_NOT_NONE": (("value",), (), 0), "POP_JUMP_IF_TRUE": (("bool",), (), 0),
    "PUSH_EXC_INFO": (("exception",), ("handled", "exception"), 0), "PUSH_NULL": ((), ("null",), 0),
    "RESUME": ((), (), 0), "RETURN_CONST": ((), (), 0), "RETURN_GENERATOR": ((), ("value",), 0),
    "RETURN_VALUE": (("value",), (), 0), "SEND": (("value", "source"), ("source", "value"), 1),
    "STORE_ATTR": (("value", "value"), (), 0), "STORE_DEREF": (("value",), (), 0), "STORE_FAST": (("value",), (), 0),
    "STORE_FAST_LOAD_FAST": (("value",), ("value",), 0), "STORE_FAST_STORE_FAST": (("value", "value"), (), 0),
    "STORE_GLOBAL": (("value",), (), 0), "STORE_NAME": (("value",), (), 0),
    "STORE_SLICE": (("value", "value", "value", "value"), (), 0), "STORE_SUBSCR": (("value", "value", "value"), (), 0),
    "TO_BOOL": (("value",), ("bool",), 0), "UNARY_INVERT": (("value",), ("value",), 0),
    "UNARY_NEGATIVE": (("value",), ("value",), 0), "UNARY_NOT": (("bool",), ("bool",), 0),
    # What is yielded is not taken, since a value lies in its place while the frame rests.
    "YIELD_VALUE": (("value",), ("value",), 1),
}


class Passing:
    """The ways that have been gone along so far."""

    def __init__(self, case):
        self.case = case
        many = len(case.words)
        # The kinds of entries where ways meet, and where some way has led.
        self.states = [None] * many
        self.passed = [False] * many
        # The numbers of the instructions that are to be looked at, as a heap.
        self.queue = []
        self.waiting = [False] * many
        self.greatest = 0
        self.meeting = [False] * many
        for target in [*case.targets, *[row[2] for row in case.rows]]:
            if target is not None:
                self.meeting[case.places[target]] = True

    def first_fault(self):
        """What is wrong first along the ways, as a tuple (word, offset), or None."""
        self.lead(0, [])
        while self.queue:
            at = heappop(self.queue)
            self.waiting[at] = False
            entries = list(self.states[at])
            while at is not None:
                wrong = self.look(at, entries)
                if wrong is not None:
                    return (wrong, self.case.begins[at])
                at = self.following(at, entries)
        return None

    def look(self, at, entries):
        """Let an instruction take and leave entries, and lead to where it may lead but to the next; what is wrong."""
        case = self.case
        self.passed[at] = True
        word = case.words[at]
        if word in SIMPLE:
            takes, leaves, stay = SIMPLE[word]
            kept = take(entries, takes)
            if kept == 0:
                kept = len(entries) + stay
                entries.extend(leaves)
        else:
            action = EFFECTS[word]
            kept = action(case, entries, at, case.arguments[at])
        if kept < 0:
            return "depth" if kept == DEPTH else "kind"
        if len(entries) > self.greatest:
            self.greatest = len(entries)
        handler = case.handlers[at]
        if handler is not None and word not in QUIET:
            _, _, target, depth, wanted = handler
            if kept < depth:
                return "depth"
            caught = entries[:depth] + (["offset", "exception"] if wanted else ["exception"])
            if not self.lead(case.places[target], caught):
                return "meet"
        if at + 1 < len(case.words) and self.meeting[at + 1] and word not in LEAVING and not self.lead(at + 1, entries):
            return "meet"
        return None if case.targets[at] is None or self.lead_away(at, entries) else "meet"

    def lead_away(self, at, entries):
        """Lead to the target of a jump; whether what lies there fits."""
        if self.case.words[at] == "FOR_ITER":
            entries = [*entries[:-1], "null"]
        return self.lead(self.case.places[self.case.targets[at]], entries)

    def following(self, at, entries):
        """The number of the next instruction if it is the next one to be looked at, or None."""
        if self.case.words[at] in LEAVING or self.meeting[at + 1]:
            return None
        if self.queue and self.queue[0] <= at + 1:
            # No other way leads there, so that nothing meets.
            self.states[at + 1] = list(entries)
            self.push(at + 1)
            return None
        return at + 1

    def lead(self, at, entries):
        """Lead to an instruction with these entries; whether they fit those of the ways before."""
        before = self.states[at]
        if before == entries:
            return True
        if before is not None:
            if len(before) != len(entries):
                return False
            entries = [met(one, other) for one, other in zip(before, entries)]
            if None in entries:
                return False
            if entries == before:
                return True
        self.states[at] = list(entries)
        if len(entries) > self.greatest:
            self.greatest = len(entries)
        self.push(at)
        return True

    def push(self, at):
        if not self.waiting[at]:
            self.waiting[at] = True
            heappush(self.queue, at)
