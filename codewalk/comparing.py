"""Truth, equality and order of values, and the keys of dicts.

Functions that may raise exceptions of a program, or call its functions, take the WORLD of the run first.
"""

from codewalk.values import Class, Dict, Instance, List, Range


def truth(world, value):
    if value is None or isinstance(value, (int, str, tuple)):
        return bool(value)
    if isinstance(value, List):
        return len(value.row) > 0
    if isinstance(value, Dict):
        return len(value.pairs) > 0
    if isinstance(value, Range):
        return value.many > 0
    if isinstance(value, Instance):
        told = world.special(value, world.named_bool)
        if told is not None:
            found = world.call(told, [value])
            if not isinstance(found, bool):
                world.fail("TypeError")
            return found
    return True


def equal(one, other):
    """Whether two values are equal; they may be nested deeper than calls."""
    if one == other:
        return True
    if isinstance(one, int) or isinstance(one, str):
        return False
    waiting = [(one, other)]
    while waiting:
        one, other = waiting.pop()
        # Objects are equal to themselves here, so what is one object, or made of such alone, need not be gone into.
        if one == other:
            continue
        if isinstance(one, (tuple, List)):
            if not are_rows_alike(one, other, waiting):
                return False
        elif not isinstance(one, Dict) or not isinstance(other, Dict) or not are_dicts_alike(one, other, waiting):
            return False
    return True


def are_rows_alike(one, other, waiting):
    """Whether a tuple or a list may equal another value; puts the pairs that must be equal, too, where they wait."""
    if isinstance(one, List):
        if not isinstance(other, List):
            return False
        one, other = one.row, other.row
    elif not isinstance(other, tuple):
        return False
    if len(one) != len(other):
        return False
    waiting.extend(list(zip(one, other)))
    return True


def are_dicts_alike(one, other, waiting):
    """The same for two dicts."""
    if len(one.pairs) != len(other.pairs):
        return False
    for key, (_, value) in one.pairs.items():
        if key not in other.pairs:
            return False
        waiting.append((value, other.pairs[key][1]))
    return True


def identical(one, other):
    """Whether two values are one object; of integers, strings and tuples of one object each, equal ones are."""
    return isinstance(one, bool) == isinstance(other, bool) and one == other


def ordered(world, op, one, other):
    """The result of one of the four comparisons of order."""
    while True:
        if isinstance(one, int) and isinstance(other, int) or isinstance(one, str) and isinstance(other, str):
            return compared(op, one, other)
        if isinstance(one, List) and isinstance(other, List):
            one, other = one.row, other.row
        elif not isinstance(one, tuple) or not isinstance(other, tuple):
            world.fail("TypeError")
        at = first_unlike(one, other)
        if at is None:
            return compared(op, len(one), len(other))
        one, other = one[at], other[at]


def first_unlike(one, other):
    """The first index at which two rows have elements that are not equal, or None."""
    for at, (left, right) in enumerate(zip(one, other)):
        if not equal(left, right):
            return at
    return None


def compared(op, one, other):
    if op == "<":
        return one < other
    if op == "<=":
        return one <= other
    return one > other if op == ">" else one >= other


def comparison(world, op, one, other):
    """The result of a comparison by equality or order."""
    if op == "==":
        return equal(one, other)
    if op == "!=":
        return not equal(one, other)
    if isinstance(one, int) and isinstance(other, int):
        return compared(op, one, other)
    return ordered(world, op, one, other)


def key_of(world, value):
    """What stands for a value as a key of a dict: equal keys have equal ones."""
    if isinstance(value, tuple):
        return key_of_tuple(world, value)
    if isinstance(value, (List, Dict)):
        world.fail("TypeError")
    return value


def key_of_tuple(world, value):
    """The lengths of all tuples within one, as a string, and all that is no tuple."""
    shape = []
    found = [""]
    waiting = [value]
    while waiting:
        inner = waiting.pop()
        if isinstance(inner, tuple):
            shape.append(f"{len(inner)},")
            waiting.extend(list(reversed(inner)))
        else:
            shape.append(".")
            found.append(key_of(world, inner))
    found[0] = "".join(shape)
    return tuple(found)


def has_key(world, held, value):
    return key_of(world, value) in held.pairs


def put_pair(world, held, key, value):
    """Put a pair into a dict; of equal keys the first one stays."""
    place = key_of(world, key)
    before = held.pairs.get(place)
    held.pairs[place] = (key if before is None else before[0], value)


def is_exception_class(value):
    return isinstance(value, Class) and value.raises
