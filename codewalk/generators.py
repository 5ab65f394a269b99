"""Letting generators go on: with a value that is sent, with an exception that is thrown, and to their end.

Where one is let go on, the result tells whether it rests again, and the value that is yielded or returned.
"""

from codewalk.values import ENDED, Generator, NEW, RESTS, RUNS, Raised


def resume(world, generator, value):
    """Send a value to a generator."""
    state = generator.frame.state
    if state == RUNS:
        world.fail("ValueError")
    if state == ENDED:
        return (False, None)
    if state == NEW and value is not None:
        world.fail("TypeError")
    return go_on(world, generator, value, None)


def go_on(world, generator, value, fault):
    """Let a generator that has not ended go on, with a value or with an exception where it rests."""
    frame = generator.frame
    around = world.handled
    handled = generator.handled
    world.enter(frame.path)
    handled.around = around
    world.handled = handled
    frame.stack.append(value)
    try:
        if fault is not None:
            world.link(fault)
        found = world.execute(frame, fault)
    finally:
        world.handled = around
        world.running -= 1
    return (frame.state == RESTS, found)


def throw(world, generator, fault):
    """Raise an exception where a generator rests."""
    frame = generator.frame
    if frame.state == RUNS:
        world.fail("ValueError")
    if frame.state == ENDED:
        world.throw(fault)
    inner = world.delegate_of(frame) if frame.state == RESTS else None
    if isinstance(inner, Generator):
        frame.state = RUNS
        resting, found = throw_inside(world, inner, fault)
        frame.state = RESTS
        if resting:
            return (True, found)
        fault = found
    return go_on(world, generator, None, fault)


def throw_inside(world, inner, fault):
    """Raise an exception in the generator from which another one yields; what it yields, or what is raised there."""
    try:
        if world.is_exit(fault):
            close(world, inner)
            return (False, fault)
        resting, value = throw(world, inner, fault)
    except Raised as raised:
        return (False, raised.value)
    return (True, value) if resting else (False, world.made_stop(value))


def close(world, generator):
    """Let a generator come to its end; the value that it returns."""
    frame = generator.frame
    if frame.state == NEW or frame.state == ENDED:
        frame.state = ENDED
        return None
    try:
        resting, value = throw(world, generator, world.made("GeneratorExit", ()))
    except Raised as raised:
        if not world.is_exit(raised.value) and not world.is_stop(raised.value):
            raise
        return None
    if resting:
        world.fail("RuntimeError")
    return value
