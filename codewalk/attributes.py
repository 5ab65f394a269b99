"""Attributes of values: read, stored and deleted."""

from codewalk.methods import BOUND
from codewalk.values import Builtin, Class, Dict, Fault, Function, Generator, Instance, List, Method


def attribute_of(world, value, name):
    """An attribute of a value."""
    function, found = method_of(world, value, name)
    return found if function is None else Method(function, value)


def method_of(world, value, name):
    """An attribute as a tuple: a function of the class that becomes a method, or None, and what it is otherwise."""
    if isinstance(value, Instance):
        return attribute_of_instance(world, value, name)
    if isinstance(value, Class):
        if name == world.named_name:
            return (None, value.name)
        found = value.found(name)
        if found:
            return (None, found[0])
    elif isinstance(value, Function):
        if name == world.named_name:
            return (None, value.plan.name)
    else:
        action = BOUND.get((kind_of(value), name))
        if action is not None:
            return (None, Builtin(name, action, value))
    world.fail("AttributeError")
    return None


def kind_of(value):
    """The word for what has builtin methods."""
    if isinstance(value, List):
        return "list"
    if isinstance(value, Dict):
        return "dict"
    return "generator" if isinstance(value, Generator) else ""


def attribute_of_instance(world, value, name):
    if isinstance(value, Fault):
        if name == "args":
            return (None, value.arguments)
        if name == world.named_cause:
            return (None, value.cause)
        if name == world.named_context:
            return (None, value.context)
        if name == "value" and world.is_stop(value):
            return (None, world.value_of_stop(value))
    if name in value.names:
        return (None, value.names[name])
    found = value.shape.found(name)
    if not found:
        world.fail("AttributeError")
    return (found[0], None) if isinstance(found[0], Function) else (None, found[0])


def names_to_change(world, value, name):
    """The dict of the attributes of a value, if this one may be stored and deleted."""
    if isinstance(value, Class):
        if value.builtin:
            world.fail("TypeError")
        if name != world.named_name:
            return value.names
    elif isinstance(value, Instance) and not is_fixed(world, value, name):
        return value.names
    world.fail("AttributeError")
    return None


def is_fixed(world, value, name):
    """Whether an attribute of an instance is one of those of an exception that stay."""
    if not isinstance(value, Fault):
        return False
    if name == "value":
        return world.is_stop(value)
    return name in ("args", world.named_cause, world.named_context)


def store_attribute(world, value, name, stored):
    names = names_to_change(world, value, name)
    names[name] = stored


def delete_attribute(world, value, name):
    names = names_to_change(world, value, name)
    if name not in names:
        world.fail("AttributeError")
    del names[name]
