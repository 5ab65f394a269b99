"""Going through values. What comes next is told as a tuple of one, or as () if there is nothing more."""

from codewalk.comparing import equal, key_of
from codewalk.generators import resume
from codewalk.values import Dict, Generator, Instance, Iterator, List, Raised, Range


def iterator_of(world, value):
    """What goes through a value."""
    if isinstance(value, (tuple, str)):
        return Iterator(value, value)
    if isinstance(value, (List, Range)):
        return Iterator(value, ())
    if isinstance(value, (Iterator, Generator)):
        return value
    if isinstance(value, Dict):
        return Iterator(value, keys_of(value))
    if not isinstance(value, Instance):
        world.fail("TypeError")
    told = world.special(value, world.named_iter)
    if told is None:
        world.fail("TypeError")
    found = world.call(told, [value])
    if isinstance(found, (Iterator, Generator)):
        return found
    if not isinstance(found, Instance) or world.special(found, world.named_next) is None:
        world.fail("TypeError")
    return found


def keys_of(held):
    return [key for key, _ in held.pairs.values()]


def next_of(world, going):
    """The next value of an iterator, a generator or an instance, which ends with a StopIteration."""
    if isinstance(going, Iterator):
        return next_of_iterator(world, going)
    resting, value = sent(world, going, None)
    return (value,) if resting else ()


def next_of_iterator(world, going):
    source = going.source
    row = going.row
    at = going.at
    if isinstance(source, List):
        row = source.row
    elif isinstance(source, Range):
        if at < source.many:
            going.at += 1
            return (source.first + at * source.step,)
    elif isinstance(source, Dict) and len(source.pairs) != len(row):
        world.fail("RuntimeError")
    if at < len(row):
        going.at += 1
        return (row[at],)
    # An ended iterator stays so.
    going.source = None
    going.row = ()
    return ()


def next_or_raise(world, going):
    """The next value; what ends raises StopIteration."""
    if isinstance(going, Iterator):
        found = next_of_iterator(world, going)
        return found[0] if found else world.stop(None)
    if isinstance(going, Generator):
        resting, value = resume(world, going, None)
        return value if resting else world.stop(value)
    return world.call(next_method(world, going), [going])


def next_method(world, going):
    """The function that gives the next value of an instance."""
    told = world.special(going, world.named_next) if isinstance(going, Instance) else None
    if told is None:
        world.fail("TypeError")
    return told


def sent(world, going, value):
    """Send a value; whether something was yielded, and what, or else the value with which it has ended."""
    if not isinstance(going, Generator):
        if value is not None:
            world.fail("AttributeError")
        if isinstance(going, Iterator):
            found = next_of_iterator(world, going)
            return (True, found[0]) if found else (False, None)
    try:
        if isinstance(going, Generator):
            return resume(world, going, value)
        return (True, world.call(next_method(world, going), [going]))
    except Raised as raised:
        if not world.is_stop(raised.value):
            raise
        return (False, world.value_of_stop(raised.value))


def items_of(world, value):
    """All that comes when a value is gone through, as a new list."""
    if isinstance(value, List):
        return list(value.row)
    if isinstance(value, (tuple, str)):
        return list(value)
    if isinstance(value, Dict):
        return keys_of(value)
    if isinstance(value, Range):
        return list(range(value.first, value.end, value.step))
    going = iterator_of(world, value)
    found = []
    while more := next_of(world, going):
        found.append(more[0])
    return found


def contains(world, value, held):
    """Whether a value is in another one."""
    if isinstance(held, (List, tuple)):
        row = held.row if isinstance(held, List) else held
        return any([equal(value, element) for element in row])
    if isinstance(held, Dict):
        return key_of(world, value) in held.pairs
    if isinstance(held, str):
        if not isinstance(value, str):
            world.fail("TypeError")
        return value in held
    if isinstance(held, Range):
        return isinstance(value, int) and is_in_range(value, held)
    going = iterator_of(world, held)
    while more := next_of(world, going):
        if equal(value, more[0]):
            return True
    return False


def is_in_range(number, held):
    between = held.first <= number < held.end if held.step > 0 else held.end < number <= held.first
    return between and (number - held.first) % held.step == 0


def unpacked(world, value, many):
    """The values of what must have just so many."""
    going = iterator_of(world, value)
    found = first_of(world, going, many)
    if next_of(world, going):
        world.fail("ValueError")
    return found


def first_of(world, going, many):
    """So many values of what must have as many."""
    found = []
    while len(found) < many:
        more = next_of(world, going)
        if not more:
            world.fail("ValueError")
        found.append(more[0])
    return found


def unpacked_with_list(world, value, ahead, behind):
    """The values of what has at least so many, with a list of those between."""
    going = iterator_of(world, value)
    found = first_of(world, going, ahead)
    # An instance is asked for an iterator once more.
    rest = items_of(world, going)
    if len(rest) < behind:
        world.fail("ValueError")
    split = len(rest) - behind
    return [*found, List(rest[:split]), *rest[split:]]
