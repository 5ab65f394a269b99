"""The judging of section 11 as the document tells it, step by step, without a care for time.

The tests compare the program with it. Kinds of entries are texts: "tuple 3", "cells 2", and the words of the document.
"""

from codewalk.codes import Code
from codewalk.errors import NoTable
from codewalk.tables import exception_rows, line_rows
from tests.opcodes import CACHES, LAST_WITHOUT_ARGUMENT, NUMBERS, WORDS

QUIET = """
NOP POP_TOP PUSH_NULL COPY SWAP LOAD_CONST RETURN_CONST RETURN_VALUE LOAD_FAST STORE_FAST LOAD_FAST_LOAD_FAST
STORE_FAST_LOAD_FAST STORE_FAST_STORE_FAST STORE_DEREF STORE_NAME STORE_GLOBAL JUMP_FORWARD JUMP_BACKWARD
JUMP_BACKWARD_NO_INTERRUPT POP_JUMP_IF_FALSE POP_JUMP_IF_TRUE POP_JUMP_IF_NONE POP_JUMP_IF_NOT_NONE MAKE_CELL
COPY_FREE_VARS RETURN_GENERATOR RESUME BUILD_TUPLE BUILD_LIST LIST_APPEND CALL_INTRINSIC_1 END_FOR END_SEND IS_OP
UNARY_NOT LOAD_LOCALS MAKE_FUNCTION SET_FUNCTION_ATTRIBUTE LOAD_ASSERTION_ERROR LOAD_BUILD_CLASS PUSH_EXC_INFO
POP_EXCEPT
""".split()
FORWARD = ("FOR_ITER", "SEND", "JUMP_FORWARD", "POP_JUMP_IF_FALSE", "POP_JUMP_IF_TRUE", "POP_JUMP_IF_NONE",
           "POP_JUMP_IF_NOT_NONE")
BACKWARD = ("JUMP_BACKWARD", "JUMP_BACKWARD_NO_INTERRUPT")
LAST = BACKWARD + ("JUMP_FORWARD", "RAISE_VARARGS", "RERAISE", "RETURN_CONST", "RETURN_VALUE")
BEHIND = ("CALL_KW", "BUILD_CONST_KEY_MAP", "MAKE_FUNCTION", "SET_FUNCTION_ATTRIBUTE", "LOAD_FROM_DICT_OR_DEREF")
VALUES = ("value", "bool", "iterator", "source", "list", "dict", "function", "exception")


class Wrong(Exception):
    def __init__(self, word, offset):
        super().__init__(word, offset)
        self.told = (word, offset)


class Instruction:
    def __init__(self, begin, end, word, argument):
        self.begin, self.end, self.word, self.argument = begin, end, word, argument

    @property
    def target(self):
        if self.word in FORWARD:
            return self.end + 2 * self.argument
        return self.end - 2 * self.argument if self.word in BACKWARD else None


def cut(data):
    found, at = [], 0
    if not data:
        raise Wrong("bytes", 0)
    while at < len(data):
        begin, argument, many = at, 0, 0
        while True:
            unit = data[at:at + 2]
            if len(unit) < 2:
                raise Wrong("bytes", begin)
            at += 2
            argument = argument * 256 + unit[1]
            if unit[0] != NUMBERS["EXTENDED_ARG"]:
                break
            many += 1
            if many == 4 or (many == 1 and unit[1] == 0):
                raise Wrong("bytes", begin)
        word = WORDS.get(unit[0])
        if word is None or word == "CACHE":
            raise Wrong("bytes", begin)
        for _ in range(CACHES.get(word, 0)):
            if tuple(data[at:at + 2]) != (0, 0):
                raise Wrong("bytes", begin)
            at += 2
        found.append(Instruction(begin, at, word, argument))
    return found


def slots_are_right(code):
    if code.flags != 0 and (code.flags & 3 != 3 or code.flags & ~(3 | 4 | 8 | 16 | 32)):
        return False
    if len(set(code.slots)) != len(code.slots):
        return False
    kinds = list(code.kinds)
    if code.flags == 0:
        return code.argcount == 0 and code.onlycount == 0 and all(kind == 128 for kind in kinds)
    many = code.argcount + code.onlycount + bool(code.flags & 4) + bool(code.flags & 8)
    if many > len(kinds) or any(kind not in (32, 96) for kind in kinds[:many]):
        return False
    rest = kinds[many:]
    return rest == sorted(rest) and all(kind in (32, 64, 128) for kind in rest)


class Judge:
    def __init__(self, code):
        self.code = code
        self.rows = []
        self.list = cut(code.code)
        self.at = {instruction.begin: number for number, instruction in enumerate(self.list)}

    def near(self, number):
        return self.list[number] if 0 <= number < len(self.list) else Instruction(0, 0, "nothing", 0)

    def judge(self):
        for step in (self.table, self.lines, self.slots, self.arguments, self.jumps, self.prefix, self.end, self.ways,
                     self.bound, self.size):
            step()
        return "right"

    def table(self):
        try:
            self.rows = exception_rows(self.code)
        except NoTable:
            raise Wrong("table", 0) from None
        wrong = []
        for number, (begin, end, _, _, _) in enumerate(self.rows):
            if begin == end or begin not in self.at or (end not in self.at and end != len(self.code.code)):
                wrong.append(begin)
            if any(begin < earlier[1] for earlier in self.rows[:number]):
                wrong.append(begin)
        if wrong:
            raise Wrong("table", min(wrong))

    def lines(self):
        try:
            rows = line_rows(self.code)
        except NoTable:
            raise Wrong("lines", 0) from None
        if sum(end - begin for begin, end, _ in rows) != len(self.code.code):
            raise Wrong("lines", 0)

    def slots(self):
        if not slots_are_right(self.code):
            raise Wrong("slots", 0)

    def arguments(self):
        for number, instruction in enumerate(self.list):
            if not self.is_allowed(number, instruction, instruction.argument):
                raise Wrong("argument", instruction.begin)

    def constant(self, number):
        """What an instruction loads, in a tuple, or () if it is no LOAD_CONST."""
        instruction = self.near(number)
        return (self.code.constants[instruction.argument],) if instruction.word == "LOAD_CONST" else ()

    def kind(self, argument):
        return self.code.kinds[argument] if argument < len(self.code.kinds) else None

    def is_allowed(self, number, instruction, argument):
        code, word = self.code, instruction.word
        ahead, behind = self.near(number - 1), self.near(number + 1)
        loaded = self.constant(number - 1)
        generator = bool(code.flags & 32)
        if NUMBERS[word] <= LAST_WITHOUT_ARGUMENT and argument != 0:
            return False
        match word:
            case "LOAD_CONST" | "RETURN_CONST":
                if argument >= len(code.constants):
                    return False
                is_code = isinstance(code.constants[argument], Code)
                return not is_code or (word == "LOAD_CONST" and behind.word == "MAKE_FUNCTION")
            case "LOAD_NAME" | "STORE_NAME" | "DELETE_NAME":
                return argument < len(code.names) and code.flags == 0
            case "DELETE_ATTR" | "DELETE_GLOBAL" | "STORE_ATTR" | "STORE_GLOBAL":
                return argument < len(code.names)
            case "LOAD_ATTR" | "LOAD_GLOBAL":
                return argument // 2 < len(code.names)
            case "LOAD_FAST":
                return argument < len(code.slots)
            case "LOAD_FAST_CHECK" | "STORE_FAST" | "DELETE_FAST":
                return self.kind(argument) == 32
            case "LOAD_FAST_LOAD_FAST" | "STORE_FAST_LOAD_FAST" | "STORE_FAST_STORE_FAST":
                return argument <= 255 and self.kind(argument // 16) == self.kind(argument % 16) == 32
            case "MAKE_CELL":
                return self.kind(argument) in (64, 96)
            case "LOAD_DEREF" | "STORE_DEREF" | "DELETE_DEREF":
                return self.kind(argument) in (64, 96, 128)
            case "LOAD_FROM_DICT_OR_DEREF":
                return self.kind(argument) in (64, 96, 128) and ahead.word == "LOAD_LOCALS"
            case "LOAD_LOCALS":
                return code.flags == 0 and behind.word == "LOAD_FROM_DICT_OR_DEREF"
            case "COPY" | "LIST_APPEND" | "LIST_EXTEND" | "MAP_ADD" | "DICT_MERGE":
                return argument != 0
            case "SWAP":
                return argument >= 2
            case "UNPACK_SEQUENCE":
                return argument <= 1000
            case "UNPACK_EX":
                return argument % 256 + argument // 256 + 1 <= 1000
            case "BINARY_OP":
                plain = (0, 1, 2, 3, 5, 6, 7, 8, 9, 10, 12)
                return argument in plain or argument - 13 in plain
            case "COMPARE_OP":
                return argument in (2, 42, 72, 103, 132, 172) or argument - 16 in (2, 42, 72, 103, 132, 172)
            case "CONTAINS_OP" | "IS_OP" | "CALL_FUNCTION_EX":
                return argument in (0, 1)
            case "RAISE_VARARGS" | "RERAISE":
                return argument in (0, 1, 2)
            case "CALL_INTRINSIC_1":
                return argument in (3, 6)
            case "YIELD_VALUE":
                return argument in (0, 1) and generator
            case "RESUME":
                return argument == 0 or (argument in (1, 2, 5) and generator)
            case "GET_YIELD_FROM_ITER":
                return generator
            case "SEND":
                return generator and self.near(self.at.get(instruction.target, -9)).word == "END_SEND"
            case "FOR_ITER":
                target = self.at.get(instruction.target, -9)
                return self.near(target).word == "END_FOR" and self.near(target + 1).word == "POP_TOP"
            case "CALL_KW":
                return (loaded != () and isinstance(loaded[0], tuple) and len(loaded[0]) <= argument
                        and all(isinstance(name, str) for name in loaded[0])
                        and all(loaded[0].count(name) == 1 for name in loaded[0]))
            case "BUILD_CONST_KEY_MAP":
                return loaded != () and isinstance(loaded[0], tuple) and len(loaded[0]) == argument
            case "MAKE_FUNCTION":
                if loaded == () or not isinstance(loaded[0], Code) or not slots_are_right(loaded[0]):
                    return False
                free = 128 in loaded[0].kinds
                return not free or (behind.word, behind.argument) == ("SET_FUNCTION_ATTRIBUTE", 8)
            case "SET_FUNCTION_ATTRIBUTE":
                made = ahead.word == "MAKE_FUNCTION"
                given = ahead.argument if ahead.word == word else None
                if argument == 8:
                    return made and 128 in self.constant(number - 2)[0].kinds
                if argument == 2:
                    return made or given == 8
                return argument == 1 and (made or given in (8, 2))
        return True

    def due(self):
        code = self.code
        free = list(code.kinds).count(128)
        found = [("COPY_FREE_VARS", free)] if free else []
        found += [("MAKE_CELL", at) for at, kind in enumerate(code.kinds) if kind in (64, 96)]
        if code.flags & 32:
            found += [("RETURN_GENERATOR", 0), ("POP_TOP", 0)]
        return found + [("RESUME", 0)]

    def jumps(self):
        wrong = [instruction.begin for instruction in self.list
                 if instruction.target is not None and self.is_no_target(instruction.target)]
        wrong += [row[0] for row in self.rows if self.is_no_target(row[2])]
        if wrong:
            raise Wrong("jump", min(wrong))

    def is_no_target(self, offset):
        if offset not in self.at:
            return True
        number = self.at[offset]
        return self.list[number].word in BEHIND or number < len(self.due())

    def prefix(self):
        due = self.due()
        for number, wanted in enumerate(due):
            if number == len(self.list):
                raise Wrong("end", self.list[-1].begin)
            if (self.list[number].word, self.list[number].argument) != wanted:
                raise Wrong("prefix", self.list[number].begin)
        for instruction in self.list[len(due):]:
            if instruction.word in ("COPY_FREE_VARS", "MAKE_CELL", "RETURN_GENERATOR"):
                raise Wrong("prefix", instruction.begin)
            if (instruction.word, instruction.argument) == ("RESUME", 0):
                raise Wrong("prefix", instruction.begin)

    def end(self):
        if self.list[-1].word not in LAST:
            raise Wrong("end", self.list[-1].begin)

    def handler(self, instruction):
        for row in self.rows:
            if row[0] <= instruction.begin < row[1]:
                return row
        return None

    def ways(self):
        # The kinds of the entries ahead of each instruction that is reached.
        self.states = {0: []}
        self.greatest = 0
        todo = {0}
        while todo:
            number = min(todo)
            todo.remove(number)
            instruction = self.list[number]
            before = list(self.states[number])
            entries = Entries(before, instruction.begin)
            kept = Effects(self, number, entries).apply(instruction.word, instruction.argument)
            leads = []
            row = self.handler(instruction)
            if row is not None and instruction.word not in QUIET:
                if kept < row[3]:
                    raise Wrong("depth", instruction.begin)
                leads.append((self.at[row[2]], before[:row[3]] + ["offset"] * row[4] + ["exception"]))
            self.greatest = max(self.greatest, len(entries.list))
            if instruction.word not in LAST:
                leads.append((number + 1, list(entries.list)))
            if instruction.target is not None:
                there = list(entries.list)
                if instruction.word == "FOR_ITER":
                    there[-1] = "null"
                leads.append((self.at[instruction.target], there))
            for target, there in leads:
                self.lead(target, there, instruction.begin, todo)

    def lead(self, target, there, offset, todo):
        self.greatest = max(self.greatest, len(there))
        if target in self.states:
            old = self.states[target]
            if len(old) != len(there):
                raise Wrong("meet", offset)
            there = [meet(one, other, offset) for one, other in zip(old, there)]
            if there == old:
                return
        self.states[target] = there
        todo.add(target)

    def bound(self):
        """For each instruction that is reached the slots that are bound on all ways to it."""
        many = self.code.argcount + self.code.onlycount + bool(self.code.flags & 4) + bool(self.code.flags & 8)
        known = {0: set(range(many))}
        changed = True
        while changed:
            changed = False
            for number, instruction in enumerate(self.list):
                if number not in known:
                    continue
                here, after, argument = known[number], set(known[number]), instruction.argument
                match instruction.word:
                    case "STORE_FAST" | "LOAD_FAST_CHECK":
                        after.add(argument)
                    case "DELETE_FAST":
                        after.discard(argument)
                    case "STORE_FAST_LOAD_FAST":
                        after.add(argument // 16)
                    case "STORE_FAST_STORE_FAST":
                        after.update((argument // 16, argument % 16))
                leads = []
                row = self.handler(instruction)
                if row is not None and instruction.word not in QUIET:
                    leads.append((self.at[row[2]], here))
                if instruction.word not in LAST:
                    leads.append((number + 1, after))
                if instruction.target is not None:
                    leads.append((self.at[instruction.target], after))
                for target, names in leads:
                    if target not in known or not known[target] <= names:
                        known[target] = known.get(target, names) & names
                        changed = True
        for number, instruction in enumerate(self.list):
            if number in known and not self.loads_bound(instruction, known[number]):
                raise Wrong("bound", instruction.begin)

    def loads_bound(self, instruction, bound):
        first, second = instruction.argument // 16, instruction.argument % 16
        match instruction.word:
            case "LOAD_FAST":
                return self.kind(instruction.argument) != 32 or instruction.argument in bound
            case "LOAD_FAST_LOAD_FAST":
                return first in bound and second in bound
            case "STORE_FAST_LOAD_FAST":
                return second in bound or first == second
        return True

    def size(self):
        if self.code.stacksize != (self.greatest or 1):
            raise Wrong("size", 0)


def is_value(kind):
    return kind in VALUES or kind.startswith("tuple ")


def meet(one, other, offset):
    if one == other:
        return one
    if is_value(one) and is_value(other):
        return "value"
    if all(is_value(kind) or kind in ("null", "maybe") for kind in (one, other)):
        return "maybe"
    raise Wrong("meet", offset)


class Entries:
    def __init__(self, kinds, offset):
        self.list, self.offset = kinds[:], offset

    def need(self, many):
        if len(self.list) < many:
            raise Wrong("depth", self.offset)

    def take(self, *wanted):
        """Take entries, the lowest first; returns how many are left."""
        self.need(len(wanted))
        for kind in reversed(wanted):
            found = self.list.pop()
            fits = {"value": is_value(found), "any": True, "below": found in ("null", "maybe") or is_value(found)}
            if not fits.get(kind, found == kind):
                raise Wrong("kind", self.offset)
        return len(self.list)

    def leave(self, *kinds):
        self.list += kinds


SIMPLE = {
    "BEFORE_WITH": ("value", "value value"), "BINARY_SLICE": ("value value value", "value"),
    "BINARY_SUBSCR": ("value value", "value"), "CLEANUP_THROW": ("value value exception", "value value"),
    "DELETE_SUBSCR": ("value value", ""), "END_FOR": ("null", ""), "END_SEND": ("value value", "value"),
    "GET_ITER": ("value", "iterator"), "GET_YIELD_FROM_ITER": ("value", "source"), "LOAD_ASSERTION_ERROR": ("", "value"),
    "LOAD_BUILD_CLASS": ("", "value"), "LOAD_LOCALS": ("", "value"), "MAKE_FUNCTION": ("value", "function"),
    "NOP": ("", ""), "POP_EXCEPT": ("handled", ""), "POP_TOP": ("any", ""),
    "PUSH_EXC_INFO": ("exception", "handled exception"), "PUSH_NULL": ("", "null"), "RETURN_GENERATOR": ("", "value"),
    "RETURN_VALUE": ("value", ""), "STORE_SLICE": ("value value value value", ""),
    "STORE_SUBSCR": ("value value value", ""), "TO_BOOL": ("value", "bool"), "UNARY_INVERT": ("value", "value"),
    "UNARY_NEGATIVE": ("value", "value"), "UNARY_NOT": ("bool", "bool"), "BINARY_OP": ("value value", "value"),
    "CONTAINS_OP": ("value value", "bool"), "IS_OP": ("value value", "bool"), "COPY_FREE_VARS": ("", ""),
    "DELETE_ATTR": ("value", ""), "DELETE_DEREF": ("", ""), "DELETE_FAST": ("", ""), "DELETE_GLOBAL": ("", ""),
    "DELETE_NAME": ("", ""), "JUMP_BACKWARD": ("", ""), "JUMP_BACKWARD_NO_INTERRUPT": ("", ""),
    "JUMP_FORWARD": ("", ""), "LOAD_DEREF": ("", "value"), "LOAD_FAST_CHECK": ("", "value"),
    "LOAD_FAST_LOAD_FAST": ("", "value value"), "LOAD_FROM_DICT_OR_DEREF": ("value", "value"),
    "LOAD_NAME": ("", "value"), "MAKE_CELL": ("", ""), "POP_JUMP_IF_FALSE": ("bool", ""),
    "POP_JUMP_IF_NONE": ("value", ""), "POP_JUMP_IF_NOT_NONE": ("value", ""), "POP_JUMP_IF_TRUE": ("bool", ""),
    "RESUME": ("", ""), "RETURN_CONST": ("", ""), "STORE_ATTR": ("value value", ""), "STORE_DEREF": ("value", ""),
    "STORE_FAST": ("value", ""), "STORE_FAST_LOAD_FAST": ("value", "value"), "STORE_FAST_STORE_FAST": ("value value", ""),
    "STORE_GLOBAL": ("value", ""), "STORE_NAME": ("value", ""),
}


class Effects:
    """What a word does to the entries; `apply` returns how many of those ahead of it the word does not take."""

    def __init__(self, judge, number, entries):
        self.judge, self.number, self.entries = judge, number, entries

    def simple(self, takes, leaves):
        kept = self.entries.take(*takes.split())
        self.entries.leave(*leaves.split())
        return kept

    def apply(self, word, k):
        if word in SIMPLE:
            return self.simple(*SIMPLE[word])
        return getattr(self, word.lower())(k)

    def load_const(self, k):
        value = self.judge.code.constants[k]
        kind = "bool" if isinstance(value, bool) else f"tuple {len(value)}" if isinstance(value, tuple) else "value"
        return self.leave_all(0, [kind])

    def leave_all(self, many, kinds):
        self.entries.need(many)
        kept = self.entries.take(*["value"] * many)
        self.entries.leave(*kinds)
        return kept

    def load_fast(self, k):
        return self.leave_all(0, ["value" if self.judge.kind(k) == 32 else "cell"])

    def load_global(self, k):
        return self.leave_all(0, ["value", "null"] if k % 2 else ["value"])

    def load_attr(self, k):
        return self.leave_all(1, ["value", "maybe"] if k % 2 else ["value"])

    def compare_op(self, k):
        return self.leave_all(2, ["bool" if k & 16 else "value"])

    def build_tuple(self, k):
        self.entries.need(k)
        if k and self.entries.list[-1] == "cell":
            kept = self.entries.take(*["cell"] * k)
            self.entries.leave(f"cells {k}")
            return kept
        return self.leave_all(k, [f"tuple {k}"])

    def build_list(self, k):
        return self.leave_all(k, ["list"])

    def build_map(self, k):
        return self.leave_all(2 * k, ["dict"])

    def build_const_key_map(self, k):
        return self.leave_all(k + 1, ["dict"])

    def add(self, many, k, kind):
        self.entries.need(many + k)
        kept = self.entries.take(*["value"] * many)
        if self.entries.list[-k] != kind:
            raise Wrong("kind", self.entries.offset)
        return kept

    def list_append(self, k):
        return self.add(1, k, "list")

    def list_extend(self, k):
        return self.add(1, k, "list")

    def map_add(self, k):
        return self.add(2, k, "dict")

    def dict_merge(self, k):
        return self.add(1, k, "dict")

    def copy(self, k):
        self.entries.need(k)
        self.entries.leave(self.entries.list[-k])
        return len(self.entries.list) - 1

    def swap(self, k):
        self.entries.need(k)
        kinds = self.entries.list
        kinds[-1], kinds[-k] = kinds[-k], kinds[-1]
        return len(kinds)

    def call(self, k):
        self.entries.need(k + 2)
        kept = self.entries.take("value", "below", *["value"] * k)
        self.entries.leave("value")
        return kept

    def call_kw(self, k):
        return self.call(k + 1)

    def call_function_ex(self, k):
        return self.simple("value null value dict" if k else "value null value", "value")

    def call_intrinsic_1(self, k):
        return self.simple("list", "value") if k == 6 else self.simple("exception", "exception")

    def check_exc_match(self, _):
        return self.simple("exception value", "exception bool") + 1

    def for_iter(self, _):
        return self.simple("iterator", "iterator value") + 1

    def send(self, _):
        return self.simple("source value", "source value") + 1

    def yield_value(self, _):
        return self.simple("value", "value") + 1

    def with_except_start(self, _):
        below = self.entries.list[-4:]
        kept = self.entries.take("value", "offset", "handled", "exception")
        self.entries.leave(*below, "value")
        return kept + 4

    def set_function_attribute(self, k):
        at = self.number
        while self.judge.list[at].word != "LOAD_CONST":
            at -= 1
        code = self.judge.constant(at)[0]
        kept = self.entries.take("any", "function")
        given = self.judge.states[self.number][-2]
        right = {
            8: [f"cells {list(code.kinds).count(128)}"], 2: ["dict"],
            1: [f"tuple {many}" for many in range(min(code.argcount, 1000) + 1)],
        }
        if given not in right[k]:
            raise Wrong("kind", self.entries.offset)
        self.entries.leave("function")
        return kept

    def raise_varargs(self, k):
        return self.leave_all(k, [])

    def reraise(self, k):
        self.entries.need(1 + k)
        kept = self.entries.take("exception")
        if k and self.entries.list[-k] != "offset":
            raise Wrong("kind", self.entries.offset)
        return kept

    def unpack_sequence(self, k):
        return self.leave_all(1, ["value"] * k)

    def unpack_ex(self, k):
        return self.leave_all(1, ["value"] * (k % 256 + k // 256 + 1))


def judged(code):
    try:
        return Judge(code).judge()
    except Wrong as wrong:
        return wrong.told
