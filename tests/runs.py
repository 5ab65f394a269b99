"""Random programs that run for a while: names mostly have values, exceptions are mostly handled, much is told."""

INTS = ("i", "j", "n")
LISTS = ("xs", "ys")
ALL = INTS + LISTS + ("s", "t", "d", "o")
FAULTS = ("ValueError", "TypeError", "KeyError", "IndexError", "LookupError", "StopIteration", "Exception",
          "ZeroDivisionError", "ArithmeticError", "RuntimeError", "AttributeError", "NameError", "GeneratorExit",
          "BaseException", "AssertionError", "Own", "Other")
NOTHING = ((), (), None, (), (), None)


def name(word):
    return ("Name", word)


def const(value):
    return ("Constant", value)


def call(function, *arguments):
    return ("Call", name(function) if isinstance(function, str) else function, list(arguments), [])


def get(value, word):
    return ("Attribute", value, word)


class RunMaker:
    """Makes such programs out of a source of random numbers."""

    def __init__(self, pick, size=40):
        self.pick = pick
        self.left = size
        self.line = 0
        self.told = 0
        self.function = False
        self.generator = False
        self.loop = 0
        self.handled = False
        self.comprehension = 0
        self.functions = []
        self.generators = []

    def chance(self, share):
        return self.pick.random() < share

    def next_line(self):
        self.line += self.pick.choice((1, 1, 1, 3))
        return self.line

    def tell(self, *values):
        line = self.next_line()
        self.told += 1
        return ("Expr", line, call("tell", const(self.told), *values))

    def program(self):
        tree = self.classes() + self.start()
        for _ in range(self.pick.randint(1, 3)):
            tree.append(self.define(2))
        while self.left > 0:
            tree.append(self.guarded(3) if self.chance(0.85) else self.statement(3))
        return tree + [self.tell(*[name(word) for word in self.pick.sample(ALL, 3)])]

    def start(self):
        """Give all names values."""
        values = (const(self.pick.randint(-2, 5)), const(self.pick.randint(0, 3)), const(self.pick.randint(1, 9)),
                  ("List", [const(at) for at in range(self.pick.randint(0, 4))]),
                  ("List", [const("a"), const(None), ("List", [])]), const(self.pick.choice(("", "abc", "xyz"))),
                  ("Tuple", [const(1), const(2), const("z")][:self.pick.randint(0, 3)]),
                  ("Dict", [const("a"), const(1)], [const(2), ("Tuple", [])]), call("Box", const(3)))
        return [("Assign", self.next_line(), [name(word)], value) for word, value in zip(ALL, values)]

    def method(self, word, taken, body):
        line = self.next_line()
        return ("Function", line, word, (taken, (), None, (), (), None), body(), [])

    def classes(self):
        box = ("Class", self.next_line(), "Box", [], [
            self.method("__init__", ("self", "v"), lambda: [
                ("Assign", self.next_line(), [get(name("self"), "v")], name("v")),
                ("Assign", self.next_line(), [get(name("self"), "left")], name("v"))]),
            self.method("__bool__", ("self",), lambda: [
                self.tell(), ("Return", self.next_line(), ("Compare", get(name("self"), "v"), [">"], [const(1)]))]),
            self.method("__iter__", ("self",), lambda: [self.tell(), ("Return", self.next_line(), name("self"))]),
            self.method("__next__", ("self",), lambda: [
                ("If", self.next_line(), ("Compare", get(name("self"), "left"), ["<="], [const(0)]), [
                    ("Raise", self.next_line(), call("StopIteration", get(name("self"), "v")), None)], []),
                ("AugAssign", self.next_line(), get(name("self"), "left"), "-", const(1)),
                ("Return", self.next_line(), get(name("self"), "left"))]),
            self.method("__call__", ("self", "x"), lambda: [
                ("Return", self.next_line(), ("Tuple", [get(name("self"), "v"), name("x")]))]),
        ], [])
        context = ("Class", self.next_line(), "Ctx", [name("Box")], [
            self.method("__enter__", ("self",), lambda: [
                self.tell(get(name("self"), "v")), ("Return", self.next_line(), get(name("self"), "v"))]),
            self.method("__exit__", ("self", "kind", "value", "trace"), lambda: [
                self.tell(get(name("self"), "v"), name("kind"), name("value")),
                ("If", self.next_line(), ("Compare", get(name("self"), "v"), ["=="], [const(4)]), [
                    ("Raise", self.next_line(), call("Own", const("exit")), None)], []),
                ("Return", self.next_line(), ("Compare", get(name("self"), "v"), [">"], [const(2)]))]),
        ], [])
        return [box, context, ("Class", self.next_line(), "Own", [name("Exception")], [("Pass", self.next_line())], []),
                ("Class", self.next_line(), "Other", [name("Own")], [
                    self.method("__init__", ("self", "*")[:1], lambda: [
                        ("Assign", self.next_line(), [get(name("self"), "v")], const(7))])], [])]

    # Statements.

    def body(self, depth, most=3):
        return [self.statement(depth) for _ in range(self.pick.randint(1, most))]

    def statement(self, depth):
        self.left -= 1
        simple = [self.tell_some, self.tell_some, self.tell_some, self.assign, self.assign, self.assign, self.in_place,
                  self.delete, self.expr, self.expr, self.throw, self.claim, self.drop]
        if self.function:
            simple += [self.give_back, self.give_back]
        if self.loop:
            simple += [self.jump, self.jump]
        if self.generator:
            simple += [self.give, self.give, self.give]
        nested = [self.branch, self.branch, self.repeat, self.each, self.each, self.guarded, self.guarded, self.guard,
                  self.guard, self.attempt, self.attempt, self.define, self.define_class]
        return self.pick.choice(simple if depth <= 0 or self.left < 0 or self.chance(0.5) else nested)(depth - 1)

    def tell_some(self, _):
        return self.tell(*[self.value(2) for _ in range(self.pick.randint(0, 2))])

    def assign(self, _):
        line = self.next_line()
        targets = [self.target() for _ in range(self.pick.choice((1, 1, 1, 2)))]
        if len(targets) == 1 and targets[0][0] == "Name":
            return ("Assign", line, targets, self.typed(targets[0][1], 2))
        return ("Assign", line, targets, self.value(2))

    def target(self):
        match self.pick.randint(0, 9):
            case 0:
                return get(name("o"), self.pick.choice(("v", "left", "w")))
            case 1:
                return ("Subscript", name(self.pick.choice(("xs", "ys", "d"))), self.integer(1))
            case 2:
                return ("Subscript", name(self.pick.choice(LISTS)), ("Slice", self.maybe(self.integer), self.maybe(self.integer)))
            case 3:
                pieces = [name(self.pick.choice(ALL)) for _ in range(self.pick.randint(1, 3))]
                if self.chance(0.4):
                    pieces.insert(self.pick.randint(0, len(pieces)), ("Starred", name(self.pick.choice(LISTS))))
                return (self.pick.choice(("Tuple", "List")), pieces)
        return name(self.pick.choice(ALL))

    def in_place(self, _):
        line = self.next_line()
        word = self.pick.choice(ALL)
        op = self.pick.choice(("+", "+", "-", "*", "//", "mod", "|", "&", "^", "<<", ">>", "**"))
        if self.chance(0.3):
            places = (get(name("o"), "v"), ("Subscript", name("xs"), self.integer(1)),
                      ("Subscript", name("d"), const("a")), ("Subscript", name("ys"), ("Slice", const(1), None)))
            return ("AugAssign", line, self.pick.choice(places), op, self.value(1))
        return ("AugAssign", line, name(word), op, self.typed(word, 1) if op == "+" else self.small())

    def delete(self, _):
        line = self.next_line()
        places = (name(self.pick.choice(ALL)), get(name("o"), "v"), ("Subscript", name("xs"), self.integer(1)),
                  ("Subscript", name("d"), self.value(1)))
        return ("Delete", line, [self.pick.choice(places)])

    def drop(self, _):
        return (self.pick.choice((("Pass", self.next_line()), ("Expr", self.next_line(), const(1)))))

    def expr(self, _):
        line = self.next_line()
        return ("Expr", line, self.value(3))

    def throw(self, _):
        line = self.next_line()
        if self.chance(0.3):
            return ("Raise", line, None, None)
        value = self.fault()
        cause = self.pick.choice((None, None, None, const(None), self.fault()))
        return ("Raise", line, value, cause)

    def fault(self):
        word = self.pick.choice(FAULTS)
        if self.chance(0.5) or word == "Other":
            return name(word)
        return call(word, *[self.value(1) for _ in range(self.pick.randint(0, 2))])

    def claim(self, _):
        line = self.next_line()
        return ("Assert", line, self.test(2), self.maybe(self.value))

    def give_back(self, _):
        line = self.next_line()
        return ("Return", line, self.maybe(self.value))

    def give(self, _):
        line = self.next_line()
        if self.chance(0.4):
            return ("Assign", line, [name(self.pick.choice(ALL))], self.yielded())
        return ("Expr", line, self.yielded())

    def yielded(self):
        if self.chance(0.35):
            return ("YieldFrom", self.source())
        return ("Yield", self.maybe(self.value))

    def jump(self, _):
        return (self.pick.choice(("Break", "Continue")), self.next_line())

    def branch(self, depth):
        line = self.next_line()
        return ("If", line, self.test(2), self.body(depth), self.body(depth) if self.chance(0.4) else [])

    def in_loop(self, depth):
        self.loop += 1
        made = self.body(depth)
        self.loop -= 1
        return made

    def repeat(self, depth):
        """A While that ends: its test counts down."""
        line = self.next_line()
        word = self.pick.choice(INTS)
        test = ("Compare", ("NamedExpr", word, ("BinOp", name(word), "-", const(1))), [">"], [const(0)])
        if self.chance(0.3):
            test = ("BoolOp", "and", [test, self.test(1)])
        return ("While", line, test, self.in_loop(depth), self.body(depth, 2) if self.chance(0.3) else [])

    def each(self, depth):
        line = self.next_line()
        value = self.source()
        target = self.pick.choice((name(self.pick.choice(ALL)), name("i"), name("j")))
        return ("For", line, target, value, self.in_loop(depth), self.body(depth, 2) if self.chance(0.3) else [])

    def source(self):
        """What can be gone through, mostly."""
        return self.pick.choice((
            name("xs"), name("ys"), name("t"), name("s"), name("d"), call("range", self.small()),
            call("Box", self.small()), self.display(1), self.comprehension_of(1), self.generator_call(),
            self.generator_call(), call("iter", name("xs"))))

    def generator_call(self):
        if not self.generators:
            return ("GeneratorExp", name("n"), [(name("n"), call("range", self.small()), [])])
        return call(self.pick.choice(self.generators))

    def guarded(self, depth):
        """A Try that handles all exceptions."""
        line = self.next_line()
        body = self.body(depth)
        handlers = []
        if self.chance(0.5):
            handlers.append(self.handler(depth, name(self.pick.choice(FAULTS))))
        last = self.next_line()
        word = self.pick.choice((None, "e", "e", "i"))
        shown = [self.tell(name(word)) if word is not None else self.tell()]
        handlers.append((last, name(self.pick.choice(("Exception", "BaseException"))), word, shown + self.body(depth, 1)))
        orelse = self.body(depth, 2) if self.chance(0.3) else []
        finalbody = self.body(depth, 2) if self.chance(0.3) else []
        return ("Try", line, body, handlers, orelse, finalbody)

    def handler(self, depth, kind):
        line = self.next_line()
        if self.chance(0.2):
            kind = ("Tuple", [kind, name(self.pick.choice(FAULTS))])
        return (line, kind, self.pick.choice((None, "e", "j")), self.body(depth, 2))

    def attempt(self, depth):
        line = self.next_line()
        body = self.body(depth)
        handlers = [self.handler(depth, name(self.pick.choice(FAULTS))) for _ in range(self.pick.choice((0, 1, 2)))]
        if handlers and self.chance(0.2):
            handlers.append((self.next_line(), None, None, self.body(depth, 2)))
        orelse = self.body(depth, 2) if handlers and self.chance(0.3) else []
        finalbody = self.body(depth, 2) if not handlers or self.chance(0.5) else []
        return ("Try", line, body, handlers, orelse, finalbody)

    def guard(self, depth):
        line = self.next_line()
        items = []
        for _ in range(self.pick.choice((1, 1, 2, 3))):
            value = call("Ctx", const(self.pick.randint(0, 4))) if self.chance(0.9) else self.value(1)
            items.append((value, self.pick.choice((None, name("i"), self.target()))))
        return ("With", line, items, self.body(depth))

    def scope_of(self, function, generator, made):
        before = (self.function, self.generator, self.loop)
        self.function, self.generator, self.loop = function, generator, 0
        found = made()
        self.function, self.generator, self.loop = before
        return found

    def define(self, depth):
        line = self.next_line()
        word = f"f{self.line}"
        generator = self.chance(0.5)
        taken = self.pick.sample(ALL, self.pick.randint(0, 2))
        defaults = tuple([self.typed(parameter, 1) for parameter in taken])
        rest, more = self.pick.choice((None, "t")), self.pick.choice((None, "d"))
        rest, more = (None if rest in taken else rest), (None if more in taken else more)
        only = tuple([parameter for parameter in ("s",) if parameter not in taken and self.chance(0.3)])
        parameters = (tuple(taken), defaults, rest, only, tuple([const("only") for _ in only]), more)
        body = self.scope_of(True, generator, lambda: self.function_body(depth, generator, parameters))
        (self.generators if generator else self.functions).append(word)
        decorators = [("Lambda", (("f",), (), None, (), (), None), name("f"))] if self.chance(0.1) else []
        return ("Function", line, word, parameters, body, decorators)

    def function_body(self, depth, generator, parameters):
        body = []
        known = [*parameters[0], *parameters[3], parameters[2], parameters[5]]
        free = [word for word in ALL if word not in known]
        if self.chance(0.3):
            body.append(("Global", self.next_line(), self.pick.sample(free, 2)))
        elif self.chance(0.7):
            body += [step for step in self.start() if step[2][0][1] in free and self.chance(0.6)]
        body += self.body(depth)
        if generator:
            body.append(self.give(0))
        return body + self.body(depth, 2)

    def define_class(self, depth):
        line = self.next_line()
        word = self.pick.choice(("Box", "Local", "Local"))
        bases = [name(self.pick.choice(("Box", "Own", "object", "Ctx")))] if self.chance(0.5) else []
        body = self.scope_of(False, False, lambda: self.body(depth, 2))
        return ("Class", line, word, bases, body, [])

    # Expressions.

    def maybe(self, made):
        return made(1) if self.chance(0.5) else None

    def small(self):
        return const(self.pick.choice((0, 1, 2, 3, 4)))

    def integer(self, depth):
        match self.pick.randint(0, 6) if depth > 0 else self.pick.randint(0, 1):
            case 0:
                return self.small()
            case 1:
                return name(self.pick.choice(INTS))
            case 2:
                return ("BinOp", self.integer(depth - 1), self.pick.choice(("+", "-", "*", "//", "mod", "&")),
                        self.integer(depth - 1))
            case 3:
                return call("len", self.source() if self.chance(0.2) else name(self.pick.choice(("xs", "s", "t", "d"))))
            case 4:
                return ("UnaryOp", self.pick.choice(("-", "~")), self.integer(depth - 1))
            case 5:
                return ("IfExp", self.test(depth - 1), self.integer(depth - 1), self.small())
        return ("Subscript", name("xs"), self.small())

    def typed(self, word, depth):
        """A value such as the name mostly has."""
        if self.chance(0.1):
            return self.value(depth)
        if word in INTS:
            return self.integer(depth)
        if word in LISTS:
            return self.display(depth) if self.chance(0.6) else self.comprehension_of(depth)
        if word == "s":
            return self.pick.choice((const("q"), ("BinOp", name("s"), "+", const("!")), ("BinOp", const("ab"), "*", self.small())))
        if word == "t":
            return ("Tuple", self.members(depth))
        if word == "d":
            keys = [self.value(0) for _ in range(self.pick.randint(0, 3))]
            return ("Dict", keys, [self.value(0) for _ in keys])
        return call(self.pick.choice(("Box", "Box", "Ctx")), self.small())

    def display(self, depth):
        return ("List", self.members(depth))

    def members(self, depth):
        found = [self.value(depth - 1) for _ in range(self.pick.randint(0, 3))]
        if self.chance(0.3):
            found.insert(self.pick.randint(0, len(found)), ("Starred", name(self.pick.choice(("xs", "t", "o", "d")))))
        return found

    def comprehension_of(self, depth):
        word = self.pick.choice(("ListComp", "ListComp", "GeneratorExp", "DictComp"))
        value = name(self.pick.choice(("xs", "t", "s", "o"))) if self.chance(0.7) else call("range", self.small())
        self.comprehension += 1
        before, self.generator = self.generator, False
        clauses = [(name("i"), value, [self.test(1)] if self.chance(0.4) else [])]
        if self.chance(0.3):
            clauses.append((name("j"), call("range", name("i")) if self.chance(0.5) else name("ys"),
                            [self.test(1)] if self.chance(0.4) else []))
        made = self.value(depth - 1)
        found = (word, name("i"), made, clauses) if word == "DictComp" else (word, made, clauses)
        self.generator = before
        self.comprehension -= 1
        return found

    def test(self, depth):
        if depth <= 0:
            return name(self.pick.choice(ALL))
        match self.pick.randint(0, 8):
            case 0 | 1:
                ops = [self.pick.choice(("<", "<=", ">", ">=", "==", "!="))for _ in range(self.pick.choice((1, 1, 2, 3)))]
                return ("Compare", self.integer(depth - 1), ops, [self.integer(depth - 1) for _ in ops])
            case 2:
                return ("Compare", self.value(depth - 1), [self.pick.choice(("is", "is not"))], [const(None)])
            case 3:
                return ("Compare", self.value(0), [self.pick.choice(("in", "not in"))], [self.source()])
            case 4 | 5:
                return ("BoolOp", self.pick.choice(("and", "or")), [self.test(depth - 1) for _ in range(self.pick.choice((2, 2, 3)))])
            case 6:
                return ("UnaryOp", "not", self.test(depth - 1))
            case 7:
                return ("IfExp", self.test(depth - 1), self.test(depth - 1), self.test(depth - 1))
        return self.value(depth - 1)

    def value(self, depth):
        if depth <= 0:
            return name(self.pick.choice(ALL)) if self.chance(0.6) else const(self.pick.choice((None, True, 0, 1, 2, "k", "")))
        made = (self.integer, self.integer, self.display, self.test, self.operation, self.operation, self.calling,
                self.calling, self.calling, self.method_call, self.method_call, self.element, self.comprehension_of,
                self.lambda_of, self.named, self.yielding, self.values_of_generator)
        return self.pick.choice(made)(depth)

    def operation(self, depth):
        op = self.pick.choice(("+", "-", "*", "//", "mod", "|", "&", "^", "<<", ">>"))
        return ("BinOp", self.value(depth - 1), op, self.small() if op in ("*", "<<") else self.value(depth - 1))

    def calling(self, depth):
        if not self.functions or self.chance(0.4):
            word = self.pick.choice(("len", "list", "tuple", "iter", "next", "isinstance", "Box", "o", "range", "tell"))
            if word == "isinstance":
                kinds = ("Tuple", [name("Exception"), name("Ctx")]) if self.chance(0.3) else name(self.pick.choice(FAULTS))
                return call(word, self.value(0), kinds)
            return call(word, *[self.value(depth - 1) for _ in range(self.pick.choice((1, 1, 1, 0, 2)))])
        arguments = [self.value(depth - 1) for _ in range(self.pick.choice((0, 0, 1, 2)))]
        if self.chance(0.2):
            arguments.append(("Starred", self.source()))
        keywords = []
        if self.chance(0.3):
            keywords = [(word, self.value(depth - 1)) for word in self.pick.sample(ALL, self.pick.randint(1, 2))]
            if self.chance(0.4):
                keywords.insert(self.pick.randint(0, len(keywords)), (None, name("d")))
        return ("Call", name(self.pick.choice(self.functions)), arguments, keywords)

    def method_call(self, depth):
        match self.pick.randint(0, 5):
            case 0:
                return call(get(name(self.pick.choice(LISTS)), "append"), self.value(depth - 1))
            case 1:
                return call(get(name(self.pick.choice(LISTS)), "pop"), *[self.small()][:self.pick.randint(0, 1)])
            case 2:
                return call(get(name(self.pick.choice(LISTS)), "extend"), self.source())
            case 3:
                return call(get(name("d"), "get"), self.value(0), *[self.value(0)][:self.pick.randint(0, 1)])
            case 4:
                return get(name(self.pick.choice(ALL)), self.pick.choice(("v", "left", "args", "__name__", "__context__", "__cause__")))
        return call(get(self.value(0), self.pick.choice(("v", "append", "send", "close"))))

    def values_of_generator(self, depth):
        """A generator that is made, used, and closed."""
        made = self.generator_call()
        match self.pick.randint(0, 3):
            case 0:
                return call("list", made)
            case 1:
                return call("next", made, self.value(0))
            case 2:
                return call(get(made, "throw"), self.fault())
        return call(get(made, self.pick.choice(("send", "close", "throw"))), *[self.value(0)][:self.pick.randint(0, 1)])

    def element(self, depth):
        index = ("Slice", self.maybe(self.integer), self.maybe(self.integer)) if self.chance(0.4) else self.integer(1)
        return ("Subscript", name(self.pick.choice(("xs", "ys", "t", "s", "d"))), index)

    def lambda_of(self, depth):
        made = ("Lambda", (("x",), (self.value(depth - 1),), None, (), (), None), self.scope_of(True, False, lambda: self.value(depth - 1)))
        return call(made) if self.chance(0.6) else made

    def named(self, depth):
        if self.comprehension:
            return self.value(depth - 1)
        return ("NamedExpr", self.pick.choice(ALL), self.value(depth - 1))

    def yielding(self, depth):
        return self.yielded() if self.generator and not self.comprehension else self.value(depth - 1)
