"""Operations on constant integers that are carried out ahead of time."""

MOST_BITS = 128


def plus(left, right):
    return left + right


def minus(left, right):
    return left - right


def times(left, right):
    return left * right if left.bit_length() + right.bit_length() <= MOST_BITS else None


def quotient(left, right):
    return None if right == 0 else left // right


def remainder(left, right):
    return None if right == 0 else left % right


def power(left, right):
    if right < 0 or left.bit_length() * right > MOST_BITS:
        return None
    if left == 0:
        return 1 if right == 0 else 0
    found = 1
    for _ in range(right):
        found *= left
    return found


def shifted_up(left, right):
    return left << right if right >= 0 and left.bit_length() + right <= MOST_BITS else None


def shifted_down(left, right):
    # A shift by more bits than there are, however many, is one by just so many.
    return left >> min(right, left.bit_length()) if right >= 0 else None


def both(left, right):
    return left & right


def either(left, right):
    return left | right


def unlike(left, right):
    return left ^ right


OPERATIONS = {
    "+": plus, "-": minus, "*": times, "//": quotient, "mod": remainder, "**": power, "<<": shifted_up,
    ">>": shifted_down, "&": both, "|": either, "^": unlike,
}


def folded_binary(op, left, right):
    """The constant that an operation on two constants is, as a tuple of one, or () if it is left as it is."""
    if not is_integer(left) or not is_integer(right):
        return ()
    action = OPERATIONS[op]
    found = action(left, right)
    return () if found is None else (found,)


def folded_unary(op, value):
    """The constant that an operation on a constant is, as a tuple of one, or () if it is left as it is."""
    if op == "not":
        return (not value,)
    if not is_integer(value):
        return ()
    return (-value if op == "-" else ~value,)


def is_integer(value):
    return isinstance(value, int) and not isinstance(value, bool)
