"""The numbers in codes: of words, with the caches behind them, of operators, of kinds of locals, and of flags."""

# For each number its word, and how many units of two bytes an instruction with it has.
WORDS = {
    2: ("BEFORE_WITH", 1), 4: ("BINARY_SLICE", 1), 5: ("BINARY_SUBSCR", 2), 7: ("CHECK_EXC_MATCH", 1),
    8: ("CLEANUP_THROW", 1), 9: ("DELETE_SUBSCR", 1), 11: ("END_FOR", 1), 12: ("END_SEND", 1), 19: ("GET_ITER", 1),
    21: ("GET_YIELD_FROM_ITER", 1), 23: ("LOAD_ASSERTION_ERROR", 1), 24: ("LOAD_BUILD_CLASS", 1),
    25: ("LOAD_LOCALS", 1), 26: ("MAKE_FUNCTION", 1), 30: ("NOP", 1), 31: ("POP_EXCEPT", 1), 32: ("POP_TOP", 1),
    33: ("PUSH_EXC_INFO", 1), 34: ("PUSH_NULL", 1), 35: ("RETURN_GENERATOR", 1), 36: ("RETURN_VALUE", 1),
    38: ("STORE_SLICE", 1), 39: ("STORE_SUBSCR", 2), 40: ("TO_BOOL", 4), 41: ("UNARY_INVERT", 1),
    42: ("UNARY_NEGATIVE", 1), 43: ("UNARY_NOT", 1), 44: ("WITH_EXCEPT_START", 1), 45: ("BINARY_OP", 2),
    46: ("BUILD_CONST_KEY_MAP", 1), 47: ("BUILD_LIST", 1), 48: ("BUILD_MAP", 1), 52: ("BUILD_TUPLE", 1),
    53: ("CALL", 4), 54: ("CALL_FUNCTION_EX", 1), 55: ("CALL_INTRINSIC_1", 1), 57: ("CALL_KW", 1),
    58: ("COMPARE_OP", 2), 59: ("CONTAINS_OP", 2), 61: ("COPY", 1), 62: ("COPY_FREE_VARS", 1), 63: ("DELETE_ATTR", 1),
    64: ("DELETE_DEREF", 1), 65: ("DELETE_FAST", 1), 66: ("DELETE_GLOBAL", 1), 67: ("DELETE_NAME", 1),
    68: ("DICT_MERGE", 1), 72: ("FOR_ITER", 2), 76: ("IS_OP", 1), 77: ("JUMP_BACKWARD", 2),
    78: ("JUMP_BACKWARD_NO_INTERRUPT", 1), 79: ("JUMP_FORWARD", 1), 80: ("LIST_APPEND", 1), 81: ("LIST_EXTEND", 1),
    82: ("LOAD_ATTR", 10), 83: ("LOAD_CONST", 1), 84: ("LOAD_DEREF", 1), 85: ("LOAD_FAST", 1),
    87: ("LOAD_FAST_CHECK", 1), 88: ("LOAD_FAST_LOAD_FAST", 1), 89: ("LOAD_FROM_DICT_OR_DEREF", 1),
    91: ("LOAD_GLOBAL", 5), 92: ("LOAD_NAME", 1), 94: ("MAKE_CELL", 1), 95: ("MAP_ADD", 1),
    97: ("POP_JUMP_IF_FALSE", 2), 98: ("POP_JUMP_IF_NONE", 2), 99: ("POP_JUMP_IF_NOT_NONE", 2),
    100: ("POP_JUMP_IF_TRUE", 2), 101: ("RAISE_VARARGS", 1), 102: ("RERAISE", 1), 103: ("RETURN_CONST", 1),
    104: ("SEND", 2), 106: ("SET_FUNCTION_ATTRIBUTE", 1), 108: ("STORE_ATTR", 5), 109: ("STORE_DEREF", 1),
    110: ("STORE_FAST", 1), 111: ("STORE_FAST_LOAD_FAST", 1), 112: ("STORE_FAST_STORE_FAST", 1),
    113: ("STORE_GLOBAL", 1), 114: ("STORE_NAME", 1), 115: ("SWAP", 1), 116: ("UNPACK_EX", 1),
    117: ("UNPACK_SEQUENCE", 2), 118: ("YIELD_VALUE", 1), 149: ("RESUME", 1),
}

EXTENDED_ARG = 71

# The numbers below this one are those of words without an argument.
FIRST_WITH_ARGUMENT = 45

OPERATORS = {
    "+": 0, "&": 1, "//": 2, "<<": 3, "*": 5, "mod": 6, "|": 7, "**": 8, ">>": 9, "-": 10, "^": 12, "+=": 13,
    "&=": 14, "//=": 15, "<<=": 16, "*=": 18, "mod=": 19, "|=": 20, "**=": 21, ">>=": 22, "-=": 23, "^=": 25,
}
OPERATOR_SIGNS = {
    0: "+", 1: "&", 2: "//", 3: "<<", 5: "*", 6: "mod", 7: "|", 8: "**", 9: ">>", 10: "-", 12: "^", 13: "+=",
    14: "&=", 15: "//=", 16: "<<=", 18: "*=", 19: "mod=", 20: "|=", 21: "**=", 22: ">>=", 23: "-=", 25: "^=",
}
COMPARISONS = {"<": 2, "<=": 42, "==": 72, "!=": 103, ">": 132, ">=": 172}
COMPARISON_SIGNS = {2: "<", 42: "<=", 72: "==", 103: "!=", 132: ">", 172: ">="}

# What is added to the number of a comparison of which only the truth is wanted.
TRUTH = 16

# The kinds of locals: plain ones, cells, cells that are parameters, and free names.
PLAIN = 32
CELL = 64
PARAMETER_CELL = 96
FREE = 128

# The flags of functions, and what is added for some.
FUNCTION = 3
WITH_REST = 4
WITH_MORE = 8
NESTED = 16
GENERATOR = 32
