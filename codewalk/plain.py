"""What a log shows of values."""

from codewalk.values import Builtin, Class, Dict, Fault, Function, Generator, Instance, Iterator, List, Method, Range

DEEPEST = 10


def plain(value, around=0):
    """What is shown of a value that lies within so many others."""
    if value is None or isinstance(value, int) or isinstance(value, str):
        return value
    if around == DEEPEST:
        return ("deep",)
    if isinstance(value, tuple):
        return ("tuple", *plain_row(value, around))
    if isinstance(value, List):
        return ("list", *plain_row(value.row, around))
    if isinstance(value, Dict):
        return ("dict", *[plain_row(pair, around) for pair in value.pairs.values()])
    if isinstance(value, Fault):
        return ("instance", value.shape.name, plain_row(value.arguments, around))
    return plain_object(value)


def plain_row(row, around):
    return tuple([plain(value, around + 1) for value in row])


def plain_object(value):
    """What is shown of a value that shows no others."""
    if isinstance(value, Instance):
        return ("instance", value.shape.name)
    if isinstance(value, Function):
        return ("function", value.plan.path)
    if isinstance(value, Method):
        return ("method", value.function.plan.path)
    if isinstance(value, Builtin):
        return ("builtin", value.name)
    if isinstance(value, Class):
        return ("class", value.name)
    if isinstance(value, Range):
        return ("range", value.first, value.end, value.step)
    if isinstance(value, Generator):
        return ("generator", value.path)
    if isinstance(value, Iterator):
        return ("iterator",)
    return None
