"""Operations on values by operators. An ACTION takes the world and both values, and fails where it knows them not."""

from codewalk.going import items_of
from codewalk.values import Dict, List


def operate(world, op, left, right):
    """The result of a binary operation; an operator with = at its end changes a list or a dict in its place."""
    if isinstance(left, int) and isinstance(right, int):
        action = ACTIONS[op]
        return action(world, left, right)
    if op[-1] == "=":
        if isinstance(left, List) and op in LIST_CHANGES:
            change = LIST_CHANGES[op]
            return change(world, left, right)
        if isinstance(left, Dict) and op == "|=":
            return merged(world, left, right)
        op = op[:-1]
    return operate_on_rows(world, op, left, right)


def operate_on_rows(world, op, left, right):
    """The result of an operation of which not both values are integers."""
    if op == "+":
        return joined(world, left, right)
    if op == "*":
        return repeated(world, left, right)
    if op != "|" or not isinstance(left, Dict) or not isinstance(right, Dict):
        world.fail("TypeError")
    return merged(world, merged(world, Dict(), left), right)


def joined(world, left, right):
    if isinstance(left, str) and isinstance(right, str) or isinstance(left, tuple) and isinstance(right, tuple):
        return left + right
    if not isinstance(left, List) or not isinstance(right, List):
        world.fail("TypeError")
    return List(left.row + right.row)


def repeated(world, left, right):
    row, many = (right, left) if isinstance(left, int) else (left, right)
    if not isinstance(many, int):
        world.fail("TypeError")
    if isinstance(row, List):
        return List(row.row * times_of(row.row, many))
    if not isinstance(row, (str, tuple)):
        world.fail("TypeError")
    return row * times_of(row, many)


def times_of(row, many):
    """How many times a row is repeated; Python refuses numbers that are too large, even where they do not matter."""
    return many if many > 0 and len(row) > 0 else 0


def merged(world, held, other):
    """A dict with the pairs of another one put into it; of equal keys the first one stays."""
    if not isinstance(other, Dict):
        world.fail("TypeError")
    for place, (key, value) in list(other.pairs.items()):
        before = held.pairs.get(place)
        held.pairs[place] = (key if before is None else before[0], value)
    return held


def extended(world, held, other):
    """A list with all that another value has put behind it; the other one is gone through first."""
    held.row.extend(items_of(world, other))
    return held


def multiplied(world, held, other):
    if not isinstance(other, int):
        world.fail("TypeError")
    held.row[:] = held.row * times_of(held.row, other)
    return held


LIST_CHANGES = {"+=": extended, "*=": multiplied}


def plus(world, left, right):
    return left + right


def minus(world, left, right):
    return left - right


def times(world, left, right):
    return left * right


def quotient(world, left, right):
    if right == 0:
        world.fail("ZeroDivisionError")
    return left // right


def remainder(world, left, right):
    if right == 0:
        world.fail("ZeroDivisionError")
    return left % right


def power(world, left, right):
    if right < 0:
        world.fail("ValueError")
    found = 1
    # The powers of the left one by 1, 2, 4 and so on, as long as the right one has bits.
    factor = int(left)
    while right > 0:
        if right & 1:
            found *= factor
        right >>= 1
        if right > 0:
            factor *= factor
    return found


def shifted_up(world, left, right):
    if right < 0:
        world.fail("ValueError")
    return left << right


def shifted_down(world, left, right):
    if right < 0:
        world.fail("ValueError")
    # A shift by more bits than there are, however many, is one by just so many.
    return left >> min(right, left.bit_length())


def both(world, left, right):
    return left & right


def either(world, left, right):
    return left | right


def unlike(world, left, right):
    return left ^ right


ACTIONS = {
    "+": plus, "-": minus, "*": times, "//": quotient, "mod": remainder, "**": power, "<<": shifted_up,
    ">>": shifted_down, "&": both, "|": either, "^": unlike, "+=": plus, "-=": minus, "*=": times, "//=": quotient,
    "mod=": remainder, "**=": power, "<<=": shifted_up, ">>=": shifted_down, "&=": both, "|=": either, "^=": unlike,
}


def negative(world, value):
    if not isinstance(value, int):
        world.fail("TypeError")
    return -value


def inverted(world, value):
    if not isinstance(value, int):
        world.fail("TypeError")
    return -1 - value
