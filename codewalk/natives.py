"""The builtin functions and classes. An ACTION takes the world, None and the values passed."""

from codewalk.going import items_of, iterator_of, next_or_raise
from codewalk.plain import plain
from codewalk.values import Class, Dict, Instance, List, Raised, Range


def tell(world, owner, values):
    world.put(("tell", *[plain(value) for value in values]))


def size_of(world, owner, values):
    world.want(values, 1, 1)
    value = values[0]
    if isinstance(value, (str, tuple)):
        return len(value)
    if isinstance(value, List):
        return len(value.row)
    if isinstance(value, Dict):
        return len(value.pairs)
    if not isinstance(value, Range):
        world.fail("TypeError")
    return value.many


def make_range(world, owner, values):
    world.want(values, 1, 3)
    for value in values:
        if not isinstance(value, int):
            world.fail("TypeError")
    first = int(values[0]) if len(values) > 1 else 0
    end = int(values[1]) if len(values) > 1 else int(values[0])
    step = int(values[2]) if len(values) > 2 else 1
    if step == 0:
        world.fail("ValueError")
    return Range(first, end, step)


def make_iterator(world, owner, values):
    world.want(values, 1, 1)
    return iterator_of(world, values[0])


def take_next(world, owner, values):
    world.want(values, 1, 2)
    if len(values) == 1:
        return next_or_raise(world, values[0])
    try:
        return next_or_raise(world, values[0])
    except Raised as raised:
        if not world.is_stop(raised.value):
            raise
        return values[1]


def make_list(world, owner, values):
    world.want(values, 0, 1)
    return List(items_of(world, values[0]) if values else [])


def make_tuple(world, owner, values):
    world.want(values, 0, 1)
    return tuple(items_of(world, values[0])) if values else ()


def is_instance(world, owner, values):
    world.want(values, 2, 2)
    value, shapes = values
    shapes = shapes if isinstance(shapes, tuple) else (shapes,)
    for shape in shapes:
        if not isinstance(shape, Class):
            world.fail("TypeError")
    return isinstance(value, Instance) and any([value.shape.has_base(shape) for shape in shapes])


FUNCTIONS = {
    "tell": tell, "len": size_of, "range": make_range, "iter": make_iterator, "next": take_next, "list": make_list,
    "tuple": make_tuple, "isinstance": is_instance,
}

# The builtin classes, each with the one that it is based on, which stands ahead of it.
CLASSES = (
    ("object", None), ("BaseException", "object"), ("GeneratorExit", "BaseException"), ("Exception", "BaseException"),
    ("ArithmeticError", "Exception"), ("ZeroDivisionError", "ArithmeticError"), ("AssertionError", "Exception"),
    ("AttributeError", "Exception"), ("LookupError", "Exception"), ("IndexError", "LookupError"),
    ("KeyError", "LookupError"), ("NameError", "Exception"), ("UnboundLocalError", "NameError"),
    ("RuntimeError", "Exception"), ("RecursionError", "RuntimeError"), ("StopIteration", "Exception"),
    ("TypeError", "Exception"), ("ValueError", "Exception"),
)
