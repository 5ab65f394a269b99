"""How the walker runs the frame of a scope from its begin: of comprehensions, clause by clause."""

from codewalk.assigning import assign
from codewalk.blocks import Block, end_block
from codewalk.comparing import put_pair
from codewalk.direct import value_of
from codewalk.encoding import GENERATOR
from codewalk.evaluating import all_of, test, to
from codewalk.executing import give_back, push_body
from codewalk.going import iterator_of, next_of
from codewalk.names import special
from codewalk.outlines import push
from codewalk.results import give
from codewalk.stacks import cut_off, pop_top
from codewalk.values import Dict, List


class Clause(Block):
    """The further turns of a clause of a comprehension."""

    def __init__(self, frame, at):
        Block.__init__(self, frame)
        self.at = at

    def ended(self, walker, frame):
        # A further turn tells the line, whether another one has been told or not.
        frame.told = None
        walker.tell(frame, frame.line)
        turn_clause(walker, frame, self.at)


def begin(walker, frame):
    """Put the tasks of the scope of a frame there."""
    scope = frame.plan.scope
    tasks = frame.tasks
    word = scope.word
    if word == "lambda":
        tasks.append((execute_lambda, scope.content))
    elif word == "function" or word == "program" or word == "class":
        tasks.append((end_body, None))
        push_body(frame, scope.content)
        if word == "class":
            tasks.append((store_class_names, None))
    else:
        push(frame, [(tell_begin, None), (begin_comprehension, word), (give_back, None)])
    if frame.plan.flags & GENERATOR:
        # What is sent first.
        tasks.append((pop_top, None))


def tell_begin(walker, frame, part):
    walker.tell(frame, frame.line)


def execute_lambda(walker, frame, node):
    walker.tell(frame, frame.line)
    if frame.plan.yields:
        push(frame, [to(node), (give_back, None)])
    else:
        walker.finish(frame, value_of(walker, frame, node))


def end_body(walker, frame, part):
    walker.finish(frame, None)


def store_class_names(walker, frame, part):
    walker.tell(frame, frame.line)
    names = frame.names
    named = special("name")
    names[special("module")] = names[named] if named in names else walker.global_of(named)
    names[special("qualname")] = frame.path


def begin_comprehension(walker, frame, word):
    """Put what is made onto the stack, or None for a generator, and begin with the first clause."""
    made = {"list": List([]), "dict": Dict(), "generator": None}
    frame.stack.append(made[word])
    frame.stack.append(frame.locals[".0"])
    push(frame, [(begin_clause, 0)])


def begin_clause(walker, frame, at):
    """Begin to go through the value on top."""
    frame.stack.append(iterator_of(walker, frame.stack.pop()))
    turn_clause(walker, frame, at)


def turn_clause(walker, frame, at):
    """Take the next value of a clause, whose iterator is on top."""
    values, clauses = frame.plan.scope.content
    found = next_of(walker, frame.stack[-1])
    if not found:
        frame.stack.pop()
        return
    target, _, tests = clauses[at]
    tasks = [(assign, target)]
    for node in tests:
        tasks.extend([test(node), (look_further, None)])
    if at + 1 < len(clauses):
        tasks.extend([to(clauses[at + 1][1]), (begin_clause, at + 1)])
    else:
        tasks.extend([*all_of(values), (add, frame.plan.scope.word)])
    push(frame, [*tasks, (end_block, Clause(frame, at))])
    frame.stack.append(found[0])


def look_further(walker, frame, part):
    """Leave out what is still to be done in this turn of a clause, if a test has failed."""
    if frame.stack.pop():
        return
    while not isinstance(frame.tasks[-1][1], Clause):
        frame.tasks.pop()


def add(walker, frame, word):
    """Add to what the comprehension makes, at the bottom of the stack, or yield."""
    if word == "list":
        frame.stack[0].row.append(frame.stack.pop())
    elif word == "dict":
        key, value = cut_off(frame.stack, 2)
        put_pair(walker, frame.stack[0], key, value)
    else:
        push(frame, [(give, None), (pop_top, None)])
