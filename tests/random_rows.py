"""Random rows such as may be handed to `flowed`: all ways to a row open the same handlers and leave as many entries."""

NAMES = ("a", "b", "c", "d")
CONSTANTS = (None, True, False, 0, 1, 7, "", "s", (), (0,))
TESTS = ("POP_JUMP_IF_FALSE", "POP_JUMP_IF_TRUE")
NONE_TESTS = ("POP_JUMP_IF_NONE", "POP_JUMP_IF_NOT_NONE")
BOOLS = (("COMPARE_OP", ("<", False)), ("COMPARE_OP", ("==", True)), ("CONTAINS_OP", 0), ("IS_OP", 1), ("IS_OP", 0))


class RowMaker:
    def __init__(self, pick, size=20, names=NAMES):
        self.pick = pick
        self.left = size
        self.names = names
        self.rows = []
        self.labels = list(range(60))
        # Labels with gaps between them, in any order.
        pick.shuffle(self.labels)
        self.line = 1
        # Labels behind which control may go on, for each number of entries and each row of open handlers.
        self.ahead = {}
        self.passed = {}
        self.guards = ()

    def made(self):
        self.put("RESUME", 0)
        self.body(0, 4)
        while self.left > 0:
            self.body(0, 4)
        self.settle(0, True)
        self.leave(0)
        return self.rows

    def chance(self, share):
        return self.pick.random() < share

    def put(self, word, argument=None, lined=0.75):
        if self.chance(0.2):
            self.line = self.pick.randint(1, 4)
        self.rows.append((word, argument, self.line if self.chance(lined) else None))

    def label(self):
        return self.labels.pop() if self.labels else 60 + len(self.rows)

    def mark(self, label):
        self.rows.append(("LABEL", label, None))

    def name(self):
        return self.pick.choice(self.names)

    def settle(self, depth, all_of_them=False):
        """Put the labels of jumps from further ahead that may lead here."""
        here = (depth, self.guards)
        for label in list(self.ahead.get(here, ())):
            if all_of_them or self.chance(0.3):
                self.ahead[here].remove(label)
                self.passed.setdefault(here, []).append(label)
                self.mark(label)

    def target(self, depth):
        """A label that a jump with so many entries may lead to, behind or ahead, old or new."""
        here = (depth, self.guards)
        known = self.ahead.get(here, []) + (self.passed.get(here, []) if self.chance(0.3) else [])
        if known and self.chance(0.6):
            return self.pick.choice(known)
        label = self.label()
        self.ahead.setdefault(here, []).append(label)
        return label

    def body(self, depth, nested):
        for _ in range(self.pick.randint(0, 4)):
            self.left -= 1
            self.settle(depth)
            plain = [self.plain, self.plain, self.locals, self.locals, self.nop, self.test, self.test, self.away,
                     self.places]
            deep = [self.attempt, self.attempt, self.turns, self.branch]
            self.pick.choice(plain if nested == 0 or self.left < 0 else plain + deep)(depth, nested - 1)
        self.settle(depth)

    def nop(self, *_):
        self.put("NOP", None)

    def places(self, depth, _):
        here = (depth, self.guards)
        for _ in range(self.pick.choice((1, 1, 2))):
            label = self.label()
            self.passed.setdefault(here, []).append(label)
            self.mark(label)

    def load(self):
        self.pick.choice((
            lambda: self.put("LOAD_CONST", self.pick.choice(CONSTANTS)), lambda: self.put("LOAD_FAST", self.name()),
            lambda: self.put("LOAD_GLOBAL", ("g", False)), lambda: self.put("LOAD_NAME", "n"),
            lambda: self.put("LOAD_DEREF", "x"), lambda: self.put("LOAD_CODE", 1),
        ))()

    def plain(self, depth, _):
        match self.pick.randint(0, 7):
            case 0:
                self.load()
                self.put("POP_TOP")
            case 1:
                self.put("LOAD_GLOBAL", ("g", False))
                self.maybe_nop()
                self.put("PUSH_NULL")
                self.load()
                self.put("CALL", 1)
                self.put("POP_TOP")
            case 2:
                self.load()
                self.put("UNPACK_EX", (1, 1))
                for _ in range(3):
                    self.put("STORE_FAST", self.name())
            case 3:
                self.load()
                self.put("YIELD_VALUE", 0)
                self.put("RESUME", 1)
                self.put("POP_TOP")
            case 4:
                many = self.pick.randint(0, 3)
                for _ in range(many):
                    self.load()
                self.put("BUILD_TUPLE", many)
                self.put("POP_TOP")
            case 5:
                self.load()
                self.put("TO_BOOL")
                self.put("POP_TOP")
            case 6:
                self.load()
                self.put("LOAD_ATTR", ("m", True))
                self.put("CALL", 0)
                self.put("STORE_NAME", "n")
            case 7:
                self.load()
                self.load()
                self.put("BINARY_OP", "+")
                self.put("STORE_FAST", self.name())

    def maybe_nop(self):
        if self.chance(0.3):
            self.nop()

    def locals(self, *_):
        loaded = 0
        for _ in range(self.pick.randint(1, 5)):
            if loaded > 0 and self.chance(0.5):
                self.put("STORE_FAST", self.name(), 0.95)
                loaded -= 1
            elif self.chance(0.15):
                self.put("DELETE_FAST", self.name())
            else:
                self.put("LOAD_FAST", self.name(), 0.95)
                loaded += 1
        for _ in range(loaded):
            self.put("STORE_FAST" if self.chance(0.5) else "POP_TOP", None, 0.95)
            if self.rows[-1][0] == "STORE_FAST":
                self.rows[-1] = ("STORE_FAST", self.name(), self.rows[-1][2])

    def truth(self):
        """Put a value that is a bool, or a constant."""
        match self.pick.randint(0, 3):
            case 0:
                self.put("LOAD_CONST", self.pick.choice(CONSTANTS))
            case 1:
                self.load()
                self.maybe_nop()
                self.put("TO_BOOL")
                if self.chance(0.3):
                    self.put("UNARY_NOT")
            case 2:
                self.load()
                self.put("LOAD_CONST", None if self.chance(0.6) else 1)
                self.put(*self.pick.choice(BOOLS))
            case 3:
                self.load()
                self.put("TO_BOOL")
                self.put("TO_BOOL")
        for _ in range(self.pick.choice((0, 0, 1))):
            self.put("TO_BOOL")

    def test(self, depth, _):
        if self.chance(0.2):
            self.load()
            self.put(self.pick.choice(NONE_TESTS), self.target(depth))
            return
        self.truth()
        self.put(self.pick.choice(TESTS), self.target(depth))

    def jump(self, depth, lined=0.4):
        """Put a jump onward; those that lead back have a line, so that no ring is of artificial ones alone."""
        label = self.target(depth)
        back = label in self.passed.get((depth, self.guards), ())
        self.put(self.pick.choice(("JUMP", "JUMP", "JUMP_NO_INTERRUPT")), label, 1 if back else lined)

    def leave(self, depth):
        if self.chance(0.5):
            self.put("LOAD_CONST", self.pick.choice(CONSTANTS))
            self.put("RETURN_VALUE")
        else:
            self.load()
            self.put("RAISE_VARARGS", 1)

    def away(self, depth, _):
        if not self.chance(0.4):
            self.jump(depth)
        else:
            self.leave(depth)
        if self.chance(0.3):
            self.nop()

    def branch(self, depth, nested):
        other, end = self.label(), self.label()
        self.truth()
        self.put(self.pick.choice(TESTS), other)
        self.body(depth, nested)
        self.put("JUMP", end, 0.2)
        self.mark(other)
        self.body(depth, nested)
        self.mark(end)

    def turns(self, depth, nested):
        start, end = self.label(), self.label()
        self.load()
        self.put("GET_ITER")
        self.mark(start)
        self.put("FOR_ITER", end)
        self.put("STORE_FAST", self.name())
        self.body(depth + 1, nested)
        self.settle(depth + 1, True)
        self.put("JUMP", start, 1)
        self.mark(end)
        self.put("END_FOR", None, 0.1)
        self.put("POP_TOP", None, 0.1)

    def attempt(self, depth, nested):
        handler, end = self.label(), self.label()
        word = self.pick.choice(("SETUP_FINALLY", "SETUP_CLEANUP", "SETUP_WITH"))
        inner = depth
        if word == "SETUP_WITH":
            self.load()
            self.put("BEFORE_WITH")
            inner = depth + 1
        self.put(word, handler, 0.6)
        if word == "SETUP_WITH":
            self.put("POP_TOP")
        before, self.guards = self.guards, self.guards + (handler,)
        # An empty one may have no row under its handler that stays.
        if self.chance(0.9):
            self.body(inner, nested)
        self.settle(inner, True)
        self.put("POP_BLOCK", None, 0.4)
        self.guards = before
        for _ in range(inner - depth):
            self.put("POP_TOP")
        self.put("JUMP", end, 0.4)
        self.mark(handler)
        there = inner + (1 if word == "SETUP_FINALLY" else 2)
        self.body(there, nested)
        if self.chance(0.4):
            self.settle(there, True)
            self.put("RERAISE", 0)
        else:
            self.settle(there, True)
            for _ in range(there - depth):
                self.put("POP_TOP")
            if self.chance(0.5):
                self.put("JUMP", end, 0.4)
        self.mark(end)
