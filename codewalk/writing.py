"""The rows of one code while they are written."""

COMPARISONS = {
    "is": ("IS_OP", 0), "is not": ("IS_OP", 1), "in": ("CONTAINS_OP", 0), "not in": ("CONTAINS_OP", 1),
    "==": ("COMPARE_OP", ("==", False)), "!=": ("COMPARE_OP", ("!=", False)), "<": ("COMPARE_OP", ("<", False)),
    "<=": ("COMPARE_OP", ("<=", False)), ">": ("COMPARE_OP", (">", False)), ">=": ("COMPARE_OP", (">=", False)),
}

# What is behind LOAD_, STORE_ and DELETE_ in the words for a name of each kind, in a function scope and in others.
FUNCTION_ENDINGS = {"local": "FAST", "cell": "DEREF", "free": "DEREF", "global": "GLOBAL", "implicit": "GLOBAL"}
OTHER_ENDINGS = {"local": "NAME", "free": "DEREF", "global": "GLOBAL", "implicit": "NAME"}

# The words that load a name of each kind; what stands ahead of some is not told here.
FUNCTION_LOADS = {
    "local": "LOAD_FAST", "cell": "LOAD_DEREF", "free": "LOAD_DEREF", "global": "LOAD_GLOBAL",
    "implicit": "LOAD_GLOBAL",
}
OTHER_LOADS = {
    "local": "LOAD_NAME", "free": "LOAD_FROM_DICT_OR_DEREF", "global": "LOAD_GLOBAL", "implicit": "LOAD_NAME",
}


class Writer:
    """The rows of the code of a scope so far."""

    def __init__(self, scope, scopes):
        self.scope = scope
        self.scopes = scopes
        self.function = scope.is_function()
        self.rows = []
        self.labels = 0
        # None where rows are artificial.
        self.line = None
        # The innermost thing that is open, or None: a tuple of its word, two parts, and the thing around it.
        self.thing = None

    def put(self, word, argument=None):
        self.rows.append((word, argument, self.line))

    def put_bare(self, word, argument=None):
        """Put an artificial row."""
        self.rows.append((word, argument, None))

    def label(self):
        """A new label."""
        self.labels += 1
        return self.labels - 1

    def mark(self, label):
        self.rows.append(("LABEL", label, None))

    def open_thing(self, word, first=None, second=None):
        self.thing = (word, first, second, self.thing)

    def close_thing(self):
        self.thing = self.thing[3]

    def ending(self, name):
        kind = self.scope.kinds[name]
        return FUNCTION_ENDINGS[kind] if self.function else OTHER_ENDINGS[kind]

    def load(self, name):
        kind = self.scope.kinds[name]
        word = FUNCTION_LOADS[kind] if self.function else OTHER_LOADS[kind]
        if word == "LOAD_GLOBAL":
            self.rows.append((word, (name, False), self.line))
            return
        if word == "LOAD_FROM_DICT_OR_DEREF":
            self.put("LOAD_LOCALS")
        self.rows.append((word, name, self.line))

    def store(self, name):
        self.put("STORE_" + self.ending(name), name)

    def delete(self, name):
        self.put("DELETE_" + self.ending(name), name)

    def make(self, number):
        """Put the rows that make the function of a scope inside of this one."""
        frees = sorted(self.scopes[number].frees)
        if frees:
            for name in frees:
                self.put("LOAD_CLOSURE", name)
            self.put("BUILD_TUPLE", len(frees))
        self.put("LOAD_CODE", number)
        self.put("MAKE_FUNCTION")
        if frees:
            self.put("SET_FUNCTION_ATTRIBUTE", 8)


def put_comparison(out, op):
    word, argument = COMPARISONS[op]
    out.put(word, argument)


def put_jump(out, label, when):
    out.put("TO_BOOL")
    out.put("POP_JUMP_IF_TRUE" if when else "POP_JUMP_IF_FALSE", label)
