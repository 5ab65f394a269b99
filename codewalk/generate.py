"""The rows of all codes of a program."""

from codewalk.encoding import GENERATOR
from codewalk.expressions import write, write_target, write_test
from codewalk.names import special
from codewalk.preparing import prepare
from codewalk.scopes import settled
from codewalk.statements import write_body
from codewalk.writing import Writer


def generated(tree):
    """The rows (word, argument, line) of each code of a program, by the numbers of scopes. Raises NoTree, NoProgram."""
    scopes = settled(tree)
    prepare(tree, scopes)
    return [rows_of(scope, scopes) for scope in scopes]


def rows_of(scope, scopes):
    out = Writer(scope, scopes)
    if scope.word != "program":
        out.line = scope.line
    generator = scope.flags & GENERATOR != 0
    write_begin(out, generator)
    if scope.word == "lambda":
        write(out, scope.content)
        out.put("RETURN_VALUE")
    elif scope.is_comprehension():
        write_comprehension(out)
    else:
        if scope.word == "class":
            write_class_names(out)
        write_body(out, scope.content)
        out.put_bare("LOAD_CONST", None)
        out.put_bare("RETURN_VALUE")
    if generator:
        # The first label of all.
        out.mark(0)
        out.put_bare("CALL_INTRINSIC_1", 3)
        out.put_bare("RERAISE", 1)
    return out.rows


def write_begin(out, generator):
    scope = out.scope
    if scope.frees:
        out.put_bare("COPY_FREE_VARS", len(scope.frees))
    for name in cells_of(scope):
        out.put_bare("MAKE_CELL", name)
    if generator:
        out.put("RETURN_GENERATOR")
        out.put("POP_TOP")
        out.put_bare("SETUP_CLEANUP", out.label())
    out.put("RESUME", 0)


def cells_of(scope):
    """The cells of a scope: the parameters first, in their order."""
    taken = [name for name in scope.parameters if name in scope.cells]
    return taken + sorted([name for name in scope.cells if name not in scope.parameters])


def write_class_names(out):
    out.put("LOAD_NAME", special("name"))
    out.put("STORE_NAME", special("module"))
    out.put("LOAD_CONST", out.scope.path)
    out.put("STORE_NAME", special("qualname"))


def write_comprehension(out):
    values, clauses = out.scope.content
    word = out.scope.word
    if word == "list":
        out.put("BUILD_LIST", 0)
    elif word == "dict":
        out.put("BUILD_MAP", 0)
    write_clause(out, values, clauses, 0)
    if word == "generator":
        out.put("LOAD_CONST", None)
    out.put("RETURN_VALUE")


def write_clause(out, values, clauses, at):
    """Write the rows of a clause, with those of the further ones and of the values inside of it."""
    if at == len(clauses):
        write_values(out, values, at)
        return
    target, value, tests = clauses[at]
    start = out.label()
    further = out.label()
    ended = out.label()
    if at == 0:
        out.put("LOAD_FAST", ".0")
    else:
        write(out, value)
    out.put("GET_ITER")
    out.mark(start)
    out.put("FOR_ITER", ended)
    write_target(out, target)
    for test in tests:
        write_test(out, test, further, False)
    write_clause(out, values, clauses, at + 1)
    out.mark(further)
    out.put("JUMP", start)
    out.mark(ended)
    out.put_bare("END_FOR")
    out.put_bare("POP_TOP")


def write_values(out, values, depth):
    """Write the rows that add what the comprehension makes, inside of so many clauses."""
    for value in values:
        write(out, value)
    if out.scope.word == "list":
        out.put("LIST_APPEND", depth + 1)
    elif out.scope.word == "dict":
        out.put("MAP_ADD", depth + 1)
    else:
        out.put("YIELD_VALUE", 0)
        out.put("RESUME", 1)
        out.put("POP_TOP")
