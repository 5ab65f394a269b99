"""Elements, pairs and slices of values: read, stored and deleted."""

from codewalk.comparing import key_of, put_pair
from codewalk.going import items_of
from codewalk.values import Dict, List, Range


def element_of(world, value, index):
    """What a value has at an index or for a key."""
    if isinstance(value, Dict):
        return value.pairs[found_key(world, value, index)][1]
    if isinstance(value, Range):
        at = place_of(world, value.many, index)
        return value.first + at * value.step
    if isinstance(value, List):
        return value.row[place_of(world, len(value.row), index)]
    if not isinstance(value, (tuple, str)):
        world.fail("TypeError")
    return value[place_of(world, len(value), index)]


def found_key(world, held, key):
    """What stands for a key that a dict must have."""
    place = key_of(world, key)
    if place not in held.pairs:
        world.fail("KeyError", (key,))
    return place


def place_of(world, many, index):
    """An index among so many elements, from the begin."""
    if not isinstance(index, int):
        world.fail("TypeError")
    if not -many <= index < many:
        world.fail("IndexError")
    return index + many if index < 0 else index


def slice_of(world, value, lower, upper):
    look_at_bounds(world, lower, upper)
    if isinstance(value, List):
        return List(value.row[lower:upper])
    if not isinstance(value, (tuple, str)):
        world.fail("TypeError")
    return value[lower:upper]


def look_at_bounds(world, lower, upper):
    for bound in (lower, upper):
        if bound is not None and not isinstance(bound, int):
            world.fail("TypeError")


def store_element(world, value, index, stored):
    if isinstance(value, Dict):
        put_pair(world, value, index, stored)
    elif isinstance(value, List):
        value.row[place_of(world, len(value.row), index)] = stored
    else:
        world.fail("TypeError")


def delete_element(world, value, index):
    if isinstance(value, Dict):
        del value.pairs[found_key(world, value, index)]
    elif isinstance(value, List):
        del value.row[place_of(world, len(value.row), index)]
    else:
        world.fail("TypeError")


def store_slice(world, value, lower, upper, stored):
    if not isinstance(value, List):
        world.fail("TypeError")
    look_at_bounds(world, lower, upper)
    # Going through may change the list; the slice is the one that it has then.
    row = items_of(world, stored)
    value.row[lower:upper] = row
