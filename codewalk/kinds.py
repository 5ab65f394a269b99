"""What words do to the kinds of the entries on the stack.

A KIND is a string, but for a tuple of k elements the integer k, and for k cells the integer -k. What a word takes is
taken off the entries; EFFECT functions take a case, the entries, the number of an instruction and its argument, and
return how many of the entries that are left the word does not take, or DEPTH or KIND.
"""

from codewalk.encoding import FREE, PLAIN, TRUTH

# There are too few entries; the first one from the top that does not fit is of a wrong kind.
DEPTH = -1
KIND = -2

VALUES = {
    "value": True, "bool": True, "iterator": True, "source": True, "list": True, "dict": True, "function": True,
    "exception": True,
}


def is_value(kind):
    return kind in VALUES or (isinstance(kind, int) and kind >= 0)


def met(one, other):
    """The kind of an entry that has one of two kinds, or None if they do not meet."""
    if one == other:
        return one
    values = is_value(one), is_value(other)
    if values[0] and values[1]:
        return "value"
    if (values[0] or one == "null" or one == "maybe") and (values[1] or other == "null" or other == "maybe"):
        return "maybe"
    return None


def fits(wanted, kind):
    """Whether an entry of a kind is taken where one of another kind is wanted."""
    if wanted == kind:
        return True
    if wanted == "value":
        return is_value(kind)
    # Below what a call takes.
    return wanted == "maybe" and (kind == "null" or is_value(kind))


def take(entries, takes):
    """Take entries of these kinds, the top one first; 0, or what is wrong."""
    if len(entries) < len(takes):
        return DEPTH
    for wanted in takes:
        kind = entries.pop()
        if kind != wanted and not fits(wanted, kind):
            return KIND
    return 0


def take_values(entries, many):
    """Take so many values; 0, or what is wrong."""
    if len(entries) < many:
        return DEPTH
    for _ in range(many):
        kind = entries.pop()
        if kind != "value" and not is_value(kind):
            return KIND
    return 0


def replace(entries, takes, leaves):
    """Take entries and leave others; how many are not taken, or what is wrong."""
    wrong = take(entries, takes)
    if wrong:
        return wrong
    kept = len(entries)
    entries.extend(leaves)
    return kept


def build(entries, many, kind):
    """Make one entry out of so many values."""
    wrong = take_values(entries, many)
    if wrong:
        return wrong
    entries.append(kind)
    return len(entries) - 1


def load_constant(case, entries, at, argument):
    entries.append(kind_of(case.code.constants[argument]))
    return len(entries) - 1


def kind_of(constant):
    if isinstance(constant, bool):
        return "bool"
    return len(constant) if isinstance(constant, tuple) else "value"


def load_fast(case, entries, at, argument):
    entries.append("value" if case.code.kinds[argument] == PLAIN else "cell")
    return len(entries) - 1


def load_global(case, entries, at, argument):
    kept = len(entries)
    entries.append("value")
    if argument & 1:
        entries.append("null")
    return kept


def load_attribute(case, entries, at, argument):
    wrong = take_values(entries, 1)
    if wrong:
        return wrong
    entries.append("value")
    if argument & 1:
        entries.append("maybe")
        return len(entries) - 2
    return len(entries) - 1


def compare(case, entries, at, argument):
    return build(entries, 2, "bool" if argument & TRUTH else "value")


def build_tuple(case, entries, at, argument):
    if argument == 0 or len(entries) < argument or entries[-1] != "cell":
        return build(entries, argument, argument)
    return replace(entries, ["cell"] * argument, [-argument])


def build_list(case, entries, at, argument):
    return build(entries, argument, "list")


def build_map(case, entries, at, argument):
    return build(entries, 2 * argument, "dict")


def build_keyed_map(case, entries, at, argument):
    return build(entries, argument + 1, "dict")


def add_to(entries, many, argument, kind):
    """Add so many values to what then is the entry with this number from the top."""
    if len(entries) < many + argument:
        return DEPTH
    wrong = take_values(entries, many)
    if not wrong and entries[-argument] != kind:
        return KIND
    return wrong or len(entries)


def add_to_list(case, entries, at, argument):
    return add_to(entries, 1, argument, "list")


def add_pair(case, entries, at, argument):
    return add_to(entries, 2, argument, "dict")


def merge(case, entries, at, argument):
    return add_to(entries, 1, argument, "dict")


def pop_top(case, entries, at, argument):
    if not entries:
        return DEPTH
    entries.pop()
    return len(entries)


def copy_entry(case, entries, at, argument):
    if len(entries) < argument:
        return DEPTH
    entries.append(entries[-argument])
    return len(entries) - 1


def swap(case, entries, at, argument):
    if len(entries) < argument:
        return DEPTH
    entries[-1], entries[-argument] = entries[-argument], entries[-1]
    return len(entries)


def call(case, entries, at, argument):
    return call_of(entries, argument)


def call_by_names(case, entries, at, argument):
    return call_of(entries, argument + 1)


def call_of(entries, many):
    """Call what lies below so many values and what stands for the first of all."""
    if len(entries) < many + 2:
        return DEPTH
    return take_values(entries, many) or replace(entries, ("maybe", "value"), ("value",))


def call_with_rows(case, entries, at, argument):
    return replace(entries, ("dict", "value", "null", "value") if argument else ("value", "null", "value"), ("value",))


def call_intrinsic(case, entries, at, argument):
    if argument == 3:
        return replace(entries, ("exception",), ("exception",))
    return replace(entries, ("list",), ("value",))


def set_attribute(case, entries, at, argument):
    code = code_behind(case, at)
    if len(entries) < 2:
        return DEPTH
    if entries.pop() != "function":
        return KIND
    kind = entries.pop()
    if argument == 8:
        right = kind == -code.kinds.count(FREE)
    elif argument == 2:
        right = kind == "dict"
    else:
        right = isinstance(kind, int) and 0 <= kind <= code.argcount
    if not right:
        return KIND
    entries.append("function")
    return len(entries) - 1


def code_behind(case, at):
    """The code of the function that gets an attribute; it is loaded directly ahead, but for such words."""
    while case.words[at] != "LOAD_CONST":
        at -= 1
    return case.code.constants[case.arguments[at]]


def start_exit(case, entries, at, argument):
    wrong = take(list(entries), ("exception", "handled", "offset", "value"))
    if wrong:
        return wrong
    entries.append("value")
    return len(entries) - 1


def raise_given(case, entries, at, argument):
    return take_values(entries, argument) or len(entries)


def raise_again(case, entries, at, argument):
    if len(entries) < 1 + argument:
        return DEPTH
    if entries.pop() != "exception" or (argument and entries[-argument] != "offset"):
        return KIND
    return len(entries)


def unpack(case, entries, at, argument):
    return replace(entries, ("value",), ["value"] * argument)


def unpack_with_list(case, entries, at, argument):
    return replace(entries, ("value",), ["value"] * ((argument & 255) + (argument >> 8) + 1))


# What takes and leaves entries as its argument tells.
EFFECTS = {
    "LOAD_CONST": load_constant, "LOAD_FAST": load_fast, "LOAD_GLOBAL": load_global, "LOAD_ATTR": load_attribute,
    "COMPARE_OP": compare, "BUILD_TUPLE": build_tuple, "BUILD_LIST": build_list, "BUILD_MAP": build_map,
    "BUILD_CONST_KEY_MAP": build_keyed_map, "LIST_APPEND": add_to_list, "LIST_EXTEND": add_to_list,
    "MAP_ADD": add_pair, "DICT_MERGE": merge, "POP_TOP": pop_top, "COPY": copy_entry, "SWAP": swap, "CALL": call,
    "CALL_KW": call_by_names,
    "CALL_FUNCTION_EX": call_with_rows, "CALL_INTRINSIC_1": call_intrinsic, "SET_FUNCTION_ATTRIBUTE": set_attribute,
    "WITH_EXCEPT_START": start_exit, "RAISE_VARARGS": raise_given, "RERAISE": raise_again, "UNPACK_SEQUENCE": unpack,
    "UNPACK_EX": unpack_with_list,
}
