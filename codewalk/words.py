"""What the words of rows and instructions do: their effects on the stack, and where control goes from them."""

# How many entries more there are behind a word, on each way that leads on.
EFFECTS = {
    "BEFORE_WITH": 1, "BINARY_OP": -1, "BINARY_SLICE": -2, "BINARY_SUBSCR": -1, "CALL_INTRINSIC_1": 0,
    "CHECK_EXC_MATCH": 0, "CLEANUP_THROW": -1, "COMPARE_OP": -1, "CONTAINS_OP": -1, "COPY": 1, "COPY_FREE_VARS": 0,
    "DELETE_ATTR": -1, "DELETE_DEREF": 0, "DELETE_FAST": 0, "DELETE_GLOBAL": 0, "DELETE_NAME": 0, "DELETE_SUBSCR": -2,
    "DICT_MERGE": -1, "END_FOR": -1, "END_SEND": -1, "FOR_ITER": 1, "GET_ITER": 0, "GET_YIELD_FROM_ITER": 0,
    "IS_OP": -1, "JUMP": 0, "JUMP_BACKWARD": 0, "JUMP_BACKWARD_NO_INTERRUPT": 0, "JUMP_FORWARD": 0,
    "JUMP_NO_INTERRUPT": 0, "LABEL": 0, "LIST_APPEND": -1, "LIST_EXTEND": -1, "LOAD_ASSERTION_ERROR": 1,
    "LOAD_BUILD_CLASS": 1, "LOAD_CLOSURE": 1, "LOAD_CODE": 1, "LOAD_CONST": 1, "LOAD_DEREF": 1, "LOAD_FAST": 1,
    "LOAD_FAST_CHECK": 1, "LOAD_FAST_LOAD_FAST": 2, "LOAD_FROM_DICT_OR_DEREF": 0, "LOAD_LOCALS": 1, "LOAD_NAME": 1,
    "MAKE_CELL": 0, "MAKE_FUNCTION": 0, "MAP_ADD": -2, "NOP": 0, "POP_BLOCK": 0, "POP_EXCEPT": -1,
    "POP_JUMP_IF_FALSE": -1, "POP_JUMP_IF_NONE": -1, "POP_JUMP_IF_NOT_NONE": -1, "POP_JUMP_IF_TRUE": -1,
    "POP_TOP": -1, "PUSH_EXC_INFO": 1, "PUSH_NULL": 1, "RERAISE": -1, "RESUME": 0, "RETURN_CONST": 0,
    "RETURN_GENERATOR": 1, "RETURN_VALUE": -1, "SEND": 0, "SETUP_CLEANUP": 0, "SETUP_FINALLY": 0, "SETUP_WITH": 0,
    "SET_FUNCTION_ATTRIBUTE": -1, "STORE_ATTR": -2, "STORE_DEREF": -1, "STORE_FAST": -1, "STORE_FAST_LOAD_FAST": 0,
    "STORE_FAST_STORE_FAST": -2, "STORE_GLOBAL": -1, "STORE_NAME": -1, "STORE_SLICE": -4, "STORE_SUBSCR": -3,
    "SWAP": 0, "TO_BOOL": 0, "UNARY_INVERT": 0, "UNARY_NEGATIVE": 0, "UNARY_NOT": 0, "WITH_EXCEPT_START": 1,
    "YIELD_VALUE": 0,
}

# The same for words that take as many entries as their number says: without them, and for each one.
COUNTED_EFFECTS = {
    "BUILD_CONST_KEY_MAP": (0, -1), "BUILD_LIST": (1, -1), "BUILD_MAP": (1, -2), "BUILD_TUPLE": (1, -1),
    "CALL": (-1, -1), "CALL_FUNCTION_EX": (-2, -1), "CALL_KW": (-2, -1), "RAISE_VARARGS": (0, -1),
    "UNPACK_SEQUENCE": (-1, 1),
}

# The words that lead to a label, and those from which control does not go on to the next row.
LEADING = {
    "FOR_ITER": True, "JUMP": True, "JUMP_BACKWARD": True, "JUMP_BACKWARD_NO_INTERRUPT": True, "JUMP_FORWARD": True,
    "JUMP_NO_INTERRUPT": True, "POP_JUMP_IF_FALSE": True, "POP_JUMP_IF_NONE": True, "POP_JUMP_IF_NOT_NONE": True,
    "POP_JUMP_IF_TRUE": True, "SEND": True,
}
LEAVING = {
    "JUMP": True, "JUMP_BACKWARD": True, "JUMP_BACKWARD_NO_INTERRUPT": True, "JUMP_FORWARD": True,
    "JUMP_NO_INTERRUPT": True, "RAISE_VARARGS": True, "RERAISE": True, "RETURN_CONST": True, "RETURN_VALUE": True,
}

# The words behind which control does not just go on to the next row, and the one to which others lead.
TURNING = {
    "FOR_ITER": True, "JUMP": True, "JUMP_BACKWARD": True, "JUMP_BACKWARD_NO_INTERRUPT": True, "JUMP_FORWARD": True,
    "JUMP_NO_INTERRUPT": True, "LABEL": True, "POP_JUMP_IF_FALSE": True, "POP_JUMP_IF_NONE": True,
    "POP_JUMP_IF_NOT_NONE": True, "POP_JUMP_IF_TRUE": True, "RAISE_VARARGS": True, "RERAISE": True,
    "RETURN_CONST": True, "RETURN_VALUE": True, "SEND": True,
}

# The words from which no exception comes.
QUIET = {
    "BUILD_LIST": True, "BUILD_TUPLE": True, "CALL_INTRINSIC_1": True, "COPY": True, "COPY_FREE_VARS": True,
    "END_FOR": True, "END_SEND": True, "IS_OP": True, "JUMP": True, "JUMP_BACKWARD": True,
    "JUMP_BACKWARD_NO_INTERRUPT": True, "JUMP_FORWARD": True, "JUMP_NO_INTERRUPT": True, "LABEL": True,
    "LIST_APPEND": True, "LOAD_ASSERTION_ERROR": True, "LOAD_BUILD_CLASS": True, "LOAD_CLOSURE": True,
    "LOAD_CODE": True, "LOAD_CONST": True, "LOAD_FAST": True, "LOAD_FAST_LOAD_FAST": True, "LOAD_LOCALS": True,
    "MAKE_CELL": True, "MAKE_FUNCTION": True, "NOP": True, "POP_EXCEPT": True, "POP_JUMP_IF_FALSE": True,
    "POP_JUMP_IF_NONE": True, "POP_JUMP_IF_NOT_NONE": True, "POP_JUMP_IF_TRUE": True, "POP_TOP": True,
    "PUSH_EXC_INFO": True, "PUSH_NULL": True, "RESUME": True, "RETURN_CONST": True, "RETURN_GENERATOR": True,
    "RETURN_VALUE": True, "SET_FUNCTION_ATTRIBUTE": True, "STORE_DEREF": True, "STORE_FAST": True,
    "STORE_FAST_LOAD_FAST": True, "STORE_FAST_STORE_FAST": True, "STORE_GLOBAL": True, "STORE_NAME": True,
    "SWAP": True, "UNARY_NOT": True,
}

# The words whose argument is a local, or a tuple of two of them.
LOCAL = {
    "DELETE_DEREF": True, "DELETE_FAST": True, "LOAD_CLOSURE": True, "LOAD_DEREF": True, "LOAD_FAST": True,
    "LOAD_FAST_CHECK": True, "LOAD_FROM_DICT_OR_DEREF": True, "MAKE_CELL": True, "STORE_DEREF": True,
    "STORE_FAST": True, "LOAD_FAST_LOAD_FAST": True, "STORE_FAST_LOAD_FAST": True, "STORE_FAST_STORE_FAST": True,
}


def effect_of(word, argument):
    """How many entries more there are on the stack behind a row with one of the words that EFFECTS does not tell."""
    if word in COUNTED_EFFECTS:
        plain, each = COUNTED_EFFECTS[word]
        return plain + each * argument
    if word == "UNPACK_EX":
        return argument[0] + argument[1]
    # Of what is left, LOAD_ATTR takes one entry, LOAD_GLOBAL none; both leave one more if they are told so.
    return (1 if word == "LOAD_GLOBAL" else 0) + (1 if argument[1] else 0)
