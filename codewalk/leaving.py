"""Writing the rows that leave what a statement has left open."""


def put_popped(out, word, keep):
    """Put a row behind which, or behind whose next one, the top is gone; or the one below it, if the top is kept."""
    if keep:
        out.put("SWAP", 2)
    out.put(word)


def leave_handler(out, name, keep):
    if name is not None:
        out.put("POP_BLOCK")
    put_popped(out, "POP_BLOCK", keep)
    out.put("POP_EXCEPT")
    if name is not None:
        put_forgotten(out, name)


def put_forgotten(out, name):
    """Put the rows that store None in a name, so that it can be deleted, and delete it."""
    out.put("LOAD_CONST", None)
    out.store(name)
    out.delete(name)


def leave_with(out, line, keep):
    out.line = line
    out.put("POP_BLOCK")
    if keep:
        out.put("SWAP", 2)
    put_exit(out)
    out.line = None


def put_exit(out):
    """Put the rows that call the `__exit__` on top with three None."""
    for _ in range(3):
        out.put("LOAD_CONST", None)
    out.put("CALL", 2)
    out.put("POP_TOP")
