"""The flow of section 8 as the document tells it, sentence by sentence, without a care for time.

The tests compare the program with it. It also looks whether rows are such as may be handed in.
"""

EFFECTS = {
    "BEFORE_WITH": 1, "BINARY_SLICE": -2, "BINARY_SUBSCR": -1, "CHECK_EXC_MATCH": 0, "CLEANUP_THROW": -1,
    "DELETE_SUBSCR": -2, "END_FOR": -1, "END_SEND": -1, "GET_ITER": 0, "GET_YIELD_FROM_ITER": 0,
    "LOAD_ASSERTION_ERROR": 1, "LOAD_BUILD_CLASS": 1, "LOAD_LOCALS": 1, "MAKE_FUNCTION": 0, "NOP": 0, "POP_EXCEPT": -1,
    "POP_TOP": -1, "PUSH_EXC_INFO": 1, "PUSH_NULL": 1, "RETURN_GENERATOR": 1, "RETURN_VALUE": -1, "STORE_SLICE": -4,
    "STORE_SUBSCR": -3, "TO_BOOL": 0, "UNARY_INVERT": 0, "UNARY_NEGATIVE": 0, "UNARY_NOT": 0, "WITH_EXCEPT_START": 1,
    "BINARY_OP": -1, "CALL_INTRINSIC_1": 0, "COMPARE_OP": -1, "CONTAINS_OP": -1, "COPY": 1, "COPY_FREE_VARS": 0,
    "DELETE_ATTR": -1, "DELETE_DEREF": 0, "DELETE_FAST": 0, "DELETE_GLOBAL": 0, "DELETE_NAME": 0, "DICT_MERGE": -1,
    "FOR_ITER": 1, "IS_OP": -1, "LIST_APPEND": -1, "LIST_EXTEND": -1, "LOAD_CONST": 1, "RETURN_CONST": 0,
    "LOAD_DEREF": 1, "LOAD_FAST": 1, "LOAD_FAST_CHECK": 1, "LOAD_FROM_DICT_OR_DEREF": 0, "LOAD_NAME": 1, "MAKE_CELL": 0,
    "MAP_ADD": -2, "POP_JUMP_IF_FALSE": -1, "POP_JUMP_IF_NONE": -1, "POP_JUMP_IF_NOT_NONE": -1,
    "POP_JUMP_IF_TRUE": -1, "RERAISE": -1, "SEND": 0, "SET_FUNCTION_ATTRIBUTE": -1, "STORE_ATTR": -2,
    "STORE_DEREF": -1, "STORE_FAST": -1, "STORE_GLOBAL": -1, "STORE_NAME": -1, "SWAP": 0, "YIELD_VALUE": 0, "RESUME": 0,
    "LOAD_CODE": 1, "LOAD_CLOSURE": 1, "LABEL": 0, "JUMP": 0, "JUMP_NO_INTERRUPT": 0, "SETUP_FINALLY": 0,
    "SETUP_CLEANUP": 0, "SETUP_WITH": 0, "POP_BLOCK": 0,
}

TESTS = ("POP_JUMP_IF_FALSE", "POP_JUMP_IF_TRUE")
ALL_TESTS = TESTS + ("POP_JUMP_IF_NONE", "POP_JUMP_IF_NOT_NONE")
SETUPS = ("SETUP_FINALLY", "SETUP_CLEANUP", "SETUP_WITH")
LEADING = ALL_TESTS + ("JUMP", "JUMP_NO_INTERRUPT", "FOR_ITER", "SEND")
LAST = ("JUMP", "JUMP_NO_INTERRUPT", "RETURN_VALUE", "RETURN_CONST", "RAISE_VARARGS", "RERAISE")

QUIET = (
    "NOP", "POP_TOP", "PUSH_NULL", "COPY", "SWAP", "LOAD_CONST", "RETURN_CONST", "RETURN_VALUE", "LOAD_FAST",
    "STORE_FAST", "STORE_DEREF", "STORE_NAME", "STORE_GLOBAL", "JUMP", "JUMP_NO_INTERRUPT", "MAKE_CELL",
    "COPY_FREE_VARS", "RETURN_GENERATOR", "RESUME", "BUILD_TUPLE", "BUILD_LIST", "LIST_APPEND", "CALL_INTRINSIC_1",
    "END_FOR", "END_SEND", "IS_OP", "UNARY_NOT", "LOAD_LOCALS", "MAKE_FUNCTION", "SET_FUNCTION_ATTRIBUTE",
    "LOAD_ASSERTION_ERROR", "LOAD_BUILD_CLASS", "PUSH_EXC_INFO", "POP_EXCEPT", "LOAD_CODE", "LOAD_CLOSURE",
) + ALL_TESTS

LOCALS = (
    "DELETE_DEREF", "DELETE_FAST", "LOAD_CLOSURE", "LOAD_DEREF", "LOAD_FAST", "LOAD_FAST_CHECK",
    "LOAD_FROM_DICT_OR_DEREF", "MAKE_CELL", "STORE_DEREF", "STORE_FAST",
)


def effect(word, argument):
    match word:
        case "BUILD_CONST_KEY_MAP":
            return -argument
        case "BUILD_LIST" | "BUILD_TUPLE":
            return 1 - argument
        case "BUILD_MAP":
            return 1 - 2 * argument
        case "CALL":
            return -1 - argument
        case "CALL_KW" | "CALL_FUNCTION_EX":
            return -2 - argument
        case "UNPACK_EX":
            return sum(argument)
        case "UNPACK_SEQUENCE":
            return argument - 1
        case "RAISE_VARARGS":
            return -argument
        case "LOAD_GLOBAL":
            return 2 if argument[1] else 1
        case "LOAD_ATTR":
            return 1 if argument[1] else 0
    return EFFECTS[word]


class Row:
    def __init__(self, word, argument, line, handler=None):
        self.word, self.argument, self.line, self.handler = word, argument, line, handler

    def told(self):
        return (self.word, self.argument, self.line, self.handler)

    def become(self, word, argument):
        self.word, self.argument = word, argument


def look(rows):
    """Look whether rows, as they are handed in, are such as may be."""
    states([Row(*row) for row in rows])


def place(rows, label):
    found = [at for at, row in enumerate(rows) if row.word == "LABEL" and row.argument == label]
    assert len(found) == 1, (label, "each label is there once")
    return found[0]


def states(rows):
    """For each row that some way reaches the entries on the stack and what is open, ahead of it."""
    found = {}
    todo = [(0, 0, ())]
    while todo:
        at, depth, guards = todo.pop()
        assert depth >= 0
        if at in found:
            assert found[at] == (depth, guards), (at, rows[at].told(), found[at], (depth, guards))
            continue
        found[at] = (depth, guards)
        row = rows[at]
        here = guards
        if row.word in SETUPS:
            kept = depth - 1 if row.word == "SETUP_WITH" else depth
            guards = guards + ((row.argument, kept, row.word != "SETUP_FINALLY"),)
        if row.word == "POP_BLOCK":
            guards = here = guards[:-1]
        artificial = row.word in SETUPS + ("POP_BLOCK",) and row.line is None
        if here and row.word != "LABEL" and not artificial:
            label, kept, offset = here[-1]
            todo.append((place(rows, label), kept + 1 + offset, here[:-1]))
        depth += effect(row.word, row.argument)
        if row.word in LEADING:
            todo.append((place(rows, row.argument), depth, guards))
        if row.word not in LAST:
            assert at + 1 < len(rows), "the last row leaves"
            todo.append((at + 1, depth, guards))
    return found


def named(rows):
    found = [row.argument for row in rows if row.word in LEADING]
    return found + [row.handler[0] for row in rows if row.handler]


def without_labels(rows):
    return [row for row in rows if row.word != "LABEL" or row.argument in named(rows)]


def handlers(rows):
    known = states(rows)
    found = []
    for at, row in enumerate(rows):
        if row.word == "LABEL":
            found.append(Row("LABEL", row.argument, None))
        elif at in known:
            guards = known[at][1]
            if row.word == "POP_BLOCK":
                guards = guards[:-1]
            made = Row(row.word, row.argument, row.line, guards[-1] if guards else None)
            before = rows[at - 1] if at > 0 else None
            if (row.word, row.argument) == ("RESUME", 1) and before.word == "YIELD_VALUE":
                if len(known[at - 1][1]) == 1:
                    made.argument = 5
            if row.word in SETUPS + ("POP_BLOCK",):
                if row.line is None:
                    continue
                made.become("NOP", None)
            found.append(made)
    return without_labels(found)


def reach(rows, exceptions=True):
    found = set()
    todo = [0]
    while todo:
        at = todo.pop()
        if at in found:
            continue
        found.add(at)
        row = rows[at]
        if exceptions and row.handler:
            todo.append(place(rows, row.handler[0]))
        if row.word in LEADING:
            todo.append(place(rows, row.argument))
        if row.word not in LAST:
            todo.append(at + 1)
    return found


def following(rows, at, many=1):
    """The word of the row so many further on, with no LABEL between."""
    between = rows[at + 1:at + 1 + many]
    if len(between) < many or any(row.word == "LABEL" for row in between):
        return None
    return between[-1]


def small_rules(rows, at):
    """Rules a to f at a row: whether one fits."""
    row, first, second = rows[at], following(rows, at), following(rows, at, 2)
    if first is None:
        return False
    if row.word == "LOAD_CONST" and first.word == "TO_BOOL":
        truth = bool(row.argument)
        row.become("NOP", None)
        first.become("LOAD_CONST", truth)
    elif row.word == "LOAD_CONST" and first.word in TESTS:
        made = bool(row.argument) is (first.word == "POP_JUMP_IF_TRUE")
        row.become("NOP", None)
        first.become(*(("JUMP", first.argument) if made else ("NOP", None)))
    elif row.word == "COMPARE_OP" and first.word == "TO_BOOL":
        row.argument = (row.argument[0], True)
        first.become("NOP", None)
    elif row.word in ("CONTAINS_OP", "IS_OP", "UNARY_NOT", "CHECK_EXC_MATCH", "TO_BOOL") and first.word == "TO_BOOL":
        first.become("NOP", None)
    elif (row.word == "LOAD_CONST" and row.argument is None and first.word == "IS_OP" and second is not None
          and second.word in TESTS):
        truth_for_none = first.argument == 0
        jumps = truth_for_none is (second.word == "POP_JUMP_IF_TRUE")
        row.become("NOP", None)
        first.become("NOP", None)
        second.word = "POP_JUMP_IF_NONE" if jumps else "POP_JUMP_IF_NOT_NONE"
    elif row.word == "LOAD_GLOBAL" and row.argument[1] is False and first.word == "PUSH_NULL":
        row.argument = (row.argument[0], True)
        first.become("NOP", None)
    elif row.word == "LOAD_CONST" and first.word == "RETURN_VALUE":
        constant = row.argument
        if first.line is None:
            first.line = row.line
        row.become("NOP", None)
        first.become("RETURN_CONST", constant)
    else:
        return False
    return True


def behind_label(rows, label):
    """The row behind a label, but for labels."""
    at = place(rows, label)
    while rows[at].word == "LABEL":
        at += 1
    return rows[at]


def rule_g(rows):
    for row in rows:
        if row.word in ALL_TESTS + ("JUMP", "JUMP_NO_INTERRUPT"):
            label, seen = row.argument, []
            while True:
                behind = behind_label(rows, label)
                if behind.word != "JUMP" or behind.line is not None:
                    row.argument = label
                    break
                if label in seen:
                    break
                seen.append(label)
                label = behind.argument


def rule_h(rows):
    for at, row in enumerate(rows):
        if row.word in ("JUMP", "JUMP_NO_INTERRUPT"):
            ahead = at + 1
            while rows[ahead:] and rows[ahead].word == "LABEL":
                if rows[ahead].argument == row.argument:
                    row.become("NOP", None)
                    break
                ahead += 1


def rule_i(rows):
    known = reach(rows)
    return without_labels([row for at, row in enumerate(rows) if at in known])


def rule_j(rows):
    rows = list(rows)
    at = 0
    while at < len(rows):
        row = rows[at]
        if row.word == "NOP":
            ahead = rows[at - 1] if at > 0 else None
            behind = following(rows, at)
            goes = ahead is not None and ahead.word != "LABEL" and ahead.word not in LAST and ahead.line == row.line
            if row.line is None or goes or (behind is not None and behind.line in (row.line, None)):
                if row.line is not None and not goes and behind.line is None:
                    behind.line = row.line
                del rows[at]
                continue
        at += 1
    return rows


def rounds(rows):
    while True:
        before = [row.told() for row in rows]
        for at in range(len(rows)):
            while small_rules(rows, at):
                pass
        rule_g(rows)
        rule_h(rows)
        rows = rule_j(rule_i(rows))
        if repr([row.told() for row in rows]) == repr(before):
            return rows


def lines(rows):
    changed = True
    while changed:
        changed = False
        for at, row in enumerate(rows):
            if row.word == "LABEL" or row.line is not None:
                continue
            labels = []
            ahead = at - 1
            while ahead >= 0 and rows[ahead].word == "LABEL":
                labels.append(rows[ahead].argument)
                ahead -= 1
            ways = [other for other in rows if other.word in LEADING and other.argument in labels]
            if ahead < 0:
                # The begin leads here, too.
                ways.append(None)
            elif rows[ahead].word not in LAST:
                ways.append(rows[ahead])
            caught = any(other.handler and other.handler[0] in labels for other in rows)
            if len(ways) == 1 and not caught and ways[0] is not None and ways[0].line is not None:
                row.line = ways[0].line
                changed = True
    return rows


def cold(rows):
    known = reach(rows, False)
    warm = []
    for at in range(len(rows)):
        real = at
        while rows[real].word == "LABEL":
            real += 1
        warm.append(real in known)
    first, last = [], []
    for at, row in enumerate(rows):
        if warm[at]:
            first.append(row)
            continue
        if row.word == "JUMP" and warm[place(rows, row.argument)]:
            row.word = "JUMP_NO_INTERRUPT"
        last.append(row)
        if row.word not in LAST and row.word != "LABEL" and warm[at + 1]:
            assert rows[at + 1].word == "LABEL"
            last.append(Row("JUMP_NO_INTERRUPT", rows[at + 1].argument, row.line, row.handler))
    rows = first + last
    rule_h(rows)
    return rule_j(rule_i(rows))


def parameters(head):
    names, only, rest, more = head[4]
    return [*names, *only] + [name for name in (rest, more) if name is not None]


def checks(rows, head):
    shared = [*head[5], *head[6]]
    # What is bound on the ways that are known so far; where there is none, all names are.
    bound = {0: set(parameters(head))}
    changed = True
    while changed:
        changed = False
        for at, row in enumerate(rows):
            if at not in bound:
                continue
            here = bound[at]
            checked = row.word == "LOAD_FAST" and row.argument not in here
            after = set(here)
            if row.word in ("STORE_FAST", "LOAD_FAST_CHECK", "LOAD_FAST"):
                after.add(row.argument)
            if row.word == "DELETE_FAST":
                after.discard(row.argument)
            leads = []
            if row.handler and (row.word not in QUIET or checked):
                leads.append((place(rows, row.handler[0]), here))
            if row.word in LEADING:
                leads.append((place(rows, row.argument), after))
            if row.word not in LAST:
                leads.append((at + 1, after))
            for target, names in leads:
                if target not in bound or not bound[target] <= names:
                    bound[target] = bound.get(target, names) & names
                    changed = True
    for at, row in enumerate(rows):
        if row.word == "LOAD_FAST" and row.argument not in [*bound.get(at, [row.argument]), *shared]:
            row.word = "LOAD_FAST_CHECK"
    return rows


def numbers(rows, head):
    found = parameters(head)
    shared = [*head[5], *head[6]]
    for row in rows:
        if row.word in LOCALS and row.argument not in found and row.argument not in shared:
            found.append(row.argument)
    found += [name for name in shared if name not in found]
    return {name: at for at, name in enumerate(found)}


def pairs(rows, head):
    number = numbers(rows, head)
    found = []
    at = 0
    while at < len(rows):
        row, behind = rows[at], following(rows, at)
        word = None
        if behind is not None:
            word = {
                ("LOAD_FAST", "LOAD_FAST"): "LOAD_FAST_LOAD_FAST", ("STORE_FAST", "LOAD_FAST"): "STORE_FAST_LOAD_FAST",
                ("STORE_FAST", "STORE_FAST"): "STORE_FAST_STORE_FAST",
            }.get((row.word, behind.word))
        if word is not None and (row.line, row.handler) == (behind.line, behind.handler):
            if number[row.argument] < 16 and number[behind.argument] < 16:
                found.append(Row(word, (row.argument, behind.argument), row.line, row.handler))
                at += 2
                continue
        found.append(row)
        at += 1
    return found


def jumps(rows):
    places = {row.argument: at for at, row in enumerate(rows) if row.word == "LABEL"}
    used = set(places)
    found = []
    for at, row in enumerate(rows):
        back = row.word in LEADING and places[row.argument] < at
        if row.word == "JUMP":
            row.word = "JUMP_BACKWARD" if back else "JUMP_FORWARD"
        elif row.word == "JUMP_NO_INTERRUPT":
            row.word = "JUMP_BACKWARD_NO_INTERRUPT" if back else "JUMP_FORWARD"
        elif row.word in ALL_TESTS and back:
            new = min(set(range(len(used) + 1)) - used)
            used.add(new)
            opposite = {0: 1, 1: 0, 2: 3, 3: 2}[ALL_TESTS.index(row.word)]
            found.append(Row(ALL_TESTS[opposite], new, row.line, row.handler))
            found.append(Row("JUMP_BACKWARD", row.argument, row.line, row.handler))
            found.append(Row("LABEL", new, None))
            continue
        found.append(row)
    return found


def flowed(rows, head, passes=True):
    found = handlers([Row(*row) for row in rows])
    if passes:
        found = rounds(found)
    found = lines(found)
    if passes:
        found = cold(found)
    found = checks(found, head)
    if passes:
        found = pairs(found, head)
    return [row.told() for row in jumps(found)]
