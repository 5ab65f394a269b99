"""The builtin methods of lists, dicts and generators. An ACTION takes the world, the owner and the values passed."""

from codewalk.comparing import key_of
from codewalk.generators import close, resume, throw
from codewalk.going import items_of
from codewalk.subscripts import place_of


def append_to(world, owner, values):
    world.want(values, 1, 1)
    owner.row.append(values[0])


def extend_by(world, owner, values):
    world.want(values, 1, 1)
    owner.row.extend(items_of(world, values[0]))


def take_last(world, owner, values):
    world.want(values, 0, 1)
    index = values[0] if values else -1
    return owner.row.pop(place_of(world, len(owner.row), index))


def get_from(world, owner, values):
    world.want(values, 1, 2)
    place = key_of(world, values[0])
    if place in owner.pairs:
        return owner.pairs[place][1]
    return values[1] if len(values) == 2 else None


def send(world, owner, values):
    world.want(values, 1, 1)
    resting, value = resume(world, owner, values[0])
    return value if resting else world.stop(value)


def throw_in(world, owner, values):
    world.want(values, 1, 1)
    resting, value = throw(world, owner, world.exception_of(values[0]))
    return value if resting else world.stop(value)


def close_down(world, owner, values):
    world.want(values, 0, 0)
    return close(world, owner)


BOUND = {
    ("list", "append"): append_to, ("list", "extend"): extend_by, ("list", "pop"): take_last, ("dict", "get"): get_from,
    ("generator", "send"): send, ("generator", "throw"): throw_in, ("generator", "close"): close_down,
}
