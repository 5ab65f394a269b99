"""Calls of values, with values by position and a dict of values by name."""

from codewalk.comparing import put_pair
from codewalk.encoding import GENERATOR, WITH_MORE, WITH_REST
from codewalk.values import Builtin, Class, Dict, Fault, Function, Generator, Instance, Method, Nothing


def call_value(world, called, values, keywords):
    """The result of a call."""
    if isinstance(called, Function):
        plan = called.plan
        frame = world.frame_of(called, bound(world, called, values, keywords), None if plan.flags else {})
        return Generator(frame, plan.path) if plan.flags & GENERATOR else world.run_frame(frame)
    if isinstance(called, Builtin):
        if keywords:
            world.fail("TypeError")
        action = called.action
        return action(world, called.owner, values)
    if isinstance(called, Method):
        return call_value(world, called.function, [called.owner, *values], keywords)
    if isinstance(called, Class):
        return make_instance(world, called, values, keywords)
    told = world.special(called, world.named_call) if isinstance(called, Instance) else None
    if told is None:
        world.fail("TypeError")
    return call_value(world, told, [called, *values], keywords)


def make_instance(world, shape, values, keywords):
    instance = Fault(shape, tuple(values)) if shape.raises else Instance(shape)
    told = world.special(instance, world.named_init)
    if told is None:
        if keywords or (values and not shape.raises):
            world.fail("TypeError")
    elif call_value(world, told, [instance, *values], keywords) is not None:
        world.fail("TypeError")
    return instance


def bound(world, function, values, keywords):
    """What the parameters of a function get, in their order."""
    plan = function.plan
    if not keywords and len(values) == len(plan.taken) == plan.many and not plan.flags & (WITH_REST | WITH_MORE):
        return values
    found = list(values[:plan.many])
    found.extend([Nothing()] * (len(plan.taken) - len(found)))
    more = take_keywords(world, plan, found, keywords)
    take_defaults(world, function, found)
    if plan.flags & WITH_REST:
        found.append(tuple(values[plan.many:]))
    elif len(values) > plan.many:
        world.fail("TypeError")
    if plan.flags & WITH_MORE:
        found.append(more)
    elif more.pairs:
        world.fail("TypeError")
    return found


def take_keywords(world, plan, found, keywords):
    """Give values to the parameters that they name; the dict of all others."""
    more = Dict()
    places = {name: at for at, name in enumerate(plan.taken)} if keywords else {}
    for name, value in keywords.items():
        at = places.get(name)
        if at is None:
            put_pair(world, more, name, value)
        elif isinstance(found[at], Nothing):
            found[at] = value
        else:
            world.fail("TypeError")
    return more


def take_defaults(world, function, found):
    """Give the parameters that have no value the default that they have."""
    plan = function.plan
    first = plan.many - len(function.defaults)
    for at, name in enumerate(plan.taken):
        if not isinstance(found[at], Nothing):
            continue
        if first <= at < plan.many:
            found[at] = function.defaults[at - first]
        elif at >= plan.many and name in function.onlydefaults:
            found[at] = function.onlydefaults[name]
        else:
            world.fail("TypeError")


def keywords_of(world, held):
    """The values by name in a dict that is passed with `**`."""
    found = {}
    for key, value in held.pairs.values():
        if not isinstance(key, str):
            world.fail("TypeError")
        found[key] = value
    return found


def merge_keywords(world, held, other):
    """Put the pairs of a dict into the dict of the keywords of a call, which has none of them yet."""
    if not isinstance(other, Dict):
        world.fail("TypeError")
    for place, pair in other.pairs.items():
        if place in held.pairs:
            world.fail("TypeError")
        held.pairs[place] = pair


def make_class(world, owner, values):
    """Make a class of the function of its body, its name and at most one base."""
    if len(values) != 2 and len(values) != 3:
        world.fail("TypeError")
    body, name = values[:2]
    base = values[2] if len(values) == 3 else world.named["object"]
    if not isinstance(body, Function) or body.plan.flags != 0:
        world.fail("TypeError")
    if not isinstance(name, str) or not isinstance(base, Class):
        world.fail("TypeError")
    names = {}
    world.run_body(body, names)
    return Class(name, base, names, False)
