"""Random programs: trees with all statements and expressions, which have no errors, or only some of section 5."""

NAMES = ("a", "b", "c", "d", "e", "f")
BINARY = ("+", "-", "*", "//", "mod", "**", "<<", ">>", "&", "|", "^")
COMPARISONS = ("==", "!=", "<", "<=", ">", ">=", "is", "is not", "in", "not in")
CONSTANTS = (None, True, False, 0, 1, 2, 7, -3, 10 ** 20, "", "s", "text")


class Maker:
    """Makes programs of about so many nodes out of a source of random numbers."""

    def __init__(self, pick, size=60):
        self.pick = pick
        self.left = size
        self.line = 0
        # What may stand here: Return and Yield in functions, Break and Continue in loops.
        self.function = False
        self.loop = False
        self.comprehension = False
        self.iterable = False

    def program(self):
        tree = self.body(4)
        while self.left > 0:
            tree += self.body(4)
        return tree

    def next_line(self):
        self.line += self.pick.choice((1, 1, 1, 2, 5))
        return self.line

    def name(self):
        return self.pick.choice(NAMES)

    def row(self, made, most, least=0):
        return [made() for _ in range(self.pick.randint(least, most))]

    def chance(self, share):
        return self.pick.random() < share

    def body(self, depth, most=3):
        return [self.statement(depth) for _ in range(self.pick.randint(1, most))]

    def maybe_body(self, depth, share=0.4):
        return self.body(depth, 2) if self.chance(share) else []

    def statement(self, depth):
        self.left -= 1
        simple = [self.expr, self.expr, self.assign, self.assign, self.in_place, self.delete, self.plain, self.throw,
                  self.claim]
        if self.function:
            simple += [self.give_back, self.give_back]
        if self.loop:
            simple += [self.jump, self.jump]
        nested = [self.branch, self.branch, self.repeat, self.each, self.attempt, self.attempt, self.guard,
                  self.define, self.define_class]
        made = self.pick.choice(simple if depth <= 0 or self.left < 0 or self.chance(0.45) else nested)
        return made(depth - 1)

    def expr(self, _):
        line = self.next_line()
        return ("Expr", line, self.value(3))

    def assign(self, _):
        line = self.next_line()
        return ("Assign", line, self.row(lambda: self.target(2), 3, 1), self.value(3))

    def in_place(self, _):
        line = self.next_line()
        return ("AugAssign", line, self.single(True), self.pick.choice(BINARY), self.value(2))

    def delete(self, _):
        line = self.next_line()
        return ("Delete", line, self.row(lambda: self.single(False), 2, 1))

    def plain(self, _):
        return ("Pass", self.next_line())

    def jump(self, _):
        return (self.pick.choice(("Break", "Continue")), self.next_line())

    def give_back(self, _):
        line = self.next_line()
        return ("Return", line, self.maybe(lambda: self.value(2)))

    def throw(self, _):
        line = self.next_line()
        value = self.maybe(lambda: self.value(1))
        return ("Raise", line, value, None if value is None else self.maybe(lambda: self.value(1)))

    def claim(self, _):
        line = self.next_line()
        return ("Assert", line, self.value(2), self.maybe(lambda: self.value(1)))

    def branch(self, depth):
        line = self.next_line()
        return ("If", line, self.test(2), self.body(depth), self.maybe_body(depth))

    def in_loop(self, depth):
        before, self.loop = self.loop, True
        made = self.body(depth)
        self.loop = before
        return made

    def repeat(self, depth):
        line = self.next_line()
        return ("While", line, self.test(2), self.in_loop(depth), self.maybe_body(depth, 0.3))

    def each(self, depth):
        line = self.next_line()
        return ("For", line, self.target(2), self.value(2), self.in_loop(depth), self.maybe_body(depth, 0.3))

    def attempt(self, depth):
        line = self.next_line()
        body = self.body(depth, 2)
        handlers = [self.handler(depth) for _ in range(self.pick.choice((0, 1, 1, 2)))]
        if handlers and self.chance(0.3):
            handlers.append((self.next_line(), None, None, self.body(depth, 2)))
        orelse = self.maybe_body(depth, 0.3) if handlers else []
        finalbody = self.body(depth, 2) if not handlers or self.chance(0.4) else []
        return ("Try", line, body, handlers, orelse, finalbody)

    def handler(self, depth):
        line = self.next_line()
        return (line, self.value(1), self.maybe(self.name), self.body(depth, 2))

    def guard(self, depth):
        line = self.next_line()
        items = self.row(lambda: (self.value(1), self.maybe(lambda: self.target(1))), 2, 1)
        return ("With", line, items, self.body(depth, 2))

    def scope_of(self, function, made):
        before = (self.function, self.loop, self.comprehension)
        self.function, self.loop, self.comprehension = function, False, False
        body = made()
        self.function, self.loop, self.comprehension = before
        return body

    def define(self, depth):
        line = self.next_line()
        parameters, decorators = self.parameters(), self.row(lambda: self.value(1), 2)
        name = self.name()
        return ("Function", line, name, parameters, self.scope_of(True, lambda: self.declared(depth)), decorators)

    def define_class(self, depth):
        line = self.next_line()
        bases, decorators, name = self.row(lambda: self.value(1), 1), self.row(lambda: self.value(1), 1), self.name()
        return ("Class", line, name, bases, self.scope_of(False, lambda: self.declared(depth)), decorators)

    def declared(self, depth):
        """A body with a Global or a Nonlocal at its begin, now and then."""
        first = []
        if self.chance(0.2):
            first.append((self.pick.choice(("Global", "Nonlocal")), self.next_line(), [self.name()]))
        return first + self.body(depth)

    def parameters(self):
        names = list(NAMES)
        self.pick.shuffle(names)
        taken = names[:self.pick.choice((0, 0, 1, 2))]
        only = names[2:2 + self.pick.choice((0, 0, 0, 1))]
        rest, more = (name if self.chance(0.2) else None for name in names[4:6])
        defaults = self.row(lambda: self.value(1), len(taken)) if self.chance(0.5) else []
        return (taken, defaults, rest, only, [self.maybe(lambda: self.value(1)) for _ in only], more)

    def maybe(self, made):
        return made() if self.chance(0.5) else None

    def single(self, slices):
        word = self.pick.choice(("Name", "Name", "Attribute", "Subscript"))
        if word == "Name":
            return ("Name", self.name())
        if word == "Attribute":
            return ("Attribute", self.value(1), self.name())
        return ("Subscript", self.value(1), self.index(1) if slices else self.value(1))

    def target(self, depth):
        if depth > 0 and self.chance(0.25):
            pieces = self.row(lambda: self.target(depth - 1), 3)
            if self.chance(0.3):
                pieces.insert(self.pick.randint(0, len(pieces)), ("Starred", self.target(depth - 1)))
            return (self.pick.choice(("Tuple", "List")), pieces)
        return self.single(True)

    def index(self, depth):
        if self.chance(0.3):
            return ("Slice", self.maybe(lambda: self.value(depth - 1)), self.maybe(lambda: self.value(depth - 1)))
        return self.value(depth)

    def test(self, depth):
        """An expression that is often one of those that a test takes apart."""
        if depth > 0 and self.chance(0.6):
            return self.pick.choice((self.junction, self.negation, self.choice, self.comparison))(depth)
        return self.value(depth)

    def value(self, depth):
        self.left -= 1
        if depth <= 0 or self.chance(0.35):
            return ("Name", self.name()) if self.chance(0.6) else ("Constant", self.pick.choice(CONSTANTS))
        made = [self.binary, self.unary, self.junction, self.negation, self.choice, self.comparison, self.display,
                self.mapping, self.call, self.call, self.attribute, self.subscript, self.function_of, self.turns]
        if not self.iterable:
            made.append(self.named)
        if self.function and not self.comprehension:
            made += [self.give] if self.chance(0.3) else []
        return self.pick.choice(made)(depth)

    def binary(self, depth):
        return ("BinOp", self.value(depth - 1), self.pick.choice(BINARY), self.value(depth - 1))

    def unary(self, depth):
        return ("UnaryOp", self.pick.choice(("-", "~", "not")), self.value(depth - 1))

    def negation(self, depth):
        return ("UnaryOp", "not", self.test(depth - 1))

    def junction(self, depth):
        return ("BoolOp", self.pick.choice(("and", "or")), self.row(lambda: self.test(depth - 1), 3, 2))

    def choice(self, depth):
        return ("IfExp", self.test(depth - 1), self.value(depth - 1), self.value(depth - 1))

    def comparison(self, depth):
        many = self.pick.choice((1, 1, 2, 3))
        ops = [self.pick.choice(COMPARISONS) for _ in range(many)]
        return ("Compare", self.value(depth - 1), ops, [self.value(depth - 1) for _ in ops])

    def members(self, depth):
        found = self.row(lambda: self.value(depth - 1), 3)
        if self.chance(0.3):
            found.insert(self.pick.randint(0, len(found)), ("Starred", self.value(depth - 1)))
        return found

    def display(self, depth):
        if self.chance(0.3):
            return ("List", [("Constant", self.pick.choice(CONSTANTS)) for _ in range(self.pick.randint(2, 4))])
        return (self.pick.choice(("Tuple", "List")), self.members(depth))

    def mapping(self, depth):
        keys = self.row(lambda: self.value(0), 3)
        return ("Dict", keys, [self.value(depth - 1) for _ in keys])

    def call(self, depth):
        names = list(NAMES)
        self.pick.shuffle(names)
        keywords = []
        if self.chance(0.4):
            keywords = [(names[k] if self.chance(0.7) else None, self.value(depth - 1))
                        for k in range(self.pick.randint(1, 4))]
        function = self.attribute(1) if self.chance(0.3) else self.value(depth - 1)
        return ("Call", function, self.members(depth), keywords)

    def attribute(self, depth):
        return ("Attribute", self.value(depth - 1), self.name())

    def subscript(self, depth):
        return ("Subscript", self.value(depth - 1), self.index(depth - 1))

    def function_of(self, depth):
        parameters = self.parameters()
        return ("Lambda", parameters, self.scope_of(not self.iterable, lambda: self.value(depth - 1)))

    def named(self, depth):
        return ("NamedExpr", self.name(), self.value(depth - 1))

    def give(self, depth):
        if self.chance(0.3):
            return ("YieldFrom", self.value(depth - 1))
        return ("Yield", self.maybe(lambda: self.value(depth - 1)))

    def turns(self, depth):
        word = self.pick.choice(("ListComp", "GeneratorExp", "DictComp"))
        many = self.pick.choice((1, 1, 2, 3))
        first = self.in_clause(depth)
        before, self.comprehension = self.comprehension, True
        clauses = [self.clause(depth, first if k == 0 else self.in_clause(depth)) for k in range(many)]
        values = [self.value(depth - 1) for _ in range(2 if word == "DictComp" else 1)]
        self.comprehension = before
        return (word, *values, clauses)

    def clause(self, depth, value):
        return (self.target(1), value, self.row(lambda: self.test(depth - 1), 2))

    def in_clause(self, depth):
        before, self.iterable = self.iterable, True
        made = self.value(depth - 1)
        self.iterable = before
        return made
