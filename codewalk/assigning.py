"""How the walker stores into targets and deletes them."""

from codewalk.attributes import attribute_of, delete_attribute, store_attribute
from codewalk.evaluating import place_of, to
from codewalk.going import unpacked, unpacked_with_list
from codewalk.outlines import delete, load, push, store
from codewalk.results import cut_off, operate_on_two
from codewalk.shapes import has_slice
from codewalk.subscripts import delete_element, element_of, slice_of, store_element, store_slice


def assign(walker, frame, target):
    """Store the top of the stack into a target."""
    word = target[0]
    if word == "Name":
        store(walker, frame, target[1], frame.stack.pop())
    elif word == "Attribute":
        push(frame, [to(target[1]), (put_attribute, target[2])])
    elif word == "Subscript":
        push(frame, [*place_of(target), (put_slice if has_slice(target) else put_element, None)])
    else:
        assign_pieces(walker, frame, target[1])


def assign_pieces(walker, frame, pieces):
    words = [piece[0] for piece in pieces]
    value = frame.stack.pop()
    if "Starred" in words:
        ahead = words.index("Starred")
        found = unpacked_with_list(walker, value, ahead, len(pieces) - ahead - 1)
    else:
        found = unpacked(walker, value, len(pieces))
    frame.stack.extend(list(reversed(found)))
    push(frame, [(assign, piece[1] if piece[0] == "Starred" else piece) for piece in pieces])


def put_attribute(walker, frame, name):
    stored, value = cut_off(frame, 2)
    store_attribute(walker, value, name, stored)


def put_element(walker, frame, part):
    stored, value, index = cut_off(frame, 3)
    store_element(walker, value, index, stored)


def put_slice(walker, frame, part):
    stored, value, lower, upper = cut_off(frame, 4)
    store_slice(walker, value, lower, upper, stored)


def assign_in_place(walker, frame, node):
    """Change what a target has by an operation."""
    _, _, target, op, value = node
    change = [to(value), (operate_on_two, op + "=")]
    if target[0] == "Name":
        frame.stack.append(load(walker, frame, target[1]))
        push(frame, [*change, (assign, target)])
    elif target[0] == "Attribute":
        push(frame, [to(target[1]), (open_attribute, target[2]), *change, (close_attribute, target[2])])
    elif has_slice(target):
        push(frame, [*place_of(target), (open_slice, None), *change, (close_slice, None)])
    else:
        push(frame, [*place_of(target), (open_element, None), *change, (close_element, None)])


def open_attribute(walker, frame, name):
    """Read an attribute, and leave what has it below."""
    frame.stack.append(attribute_of(walker, frame.stack[-1], name))


def close_attribute(walker, frame, name):
    value, stored = cut_off(frame, 2)
    store_attribute(walker, value, name, stored)


def open_element(walker, frame, part):
    value, index = frame.stack[-2:]
    frame.stack.append(element_of(walker, value, index))


def close_element(walker, frame, part):
    value, index, stored = cut_off(frame, 3)
    store_element(walker, value, index, stored)


def open_slice(walker, frame, part):
    value, lower, upper = frame.stack[-3:]
    frame.stack.append(slice_of(walker, value, lower, upper))


def close_slice(walker, frame, part):
    value, lower, upper, stored = cut_off(frame, 4)
    store_slice(walker, value, lower, upper, stored)


def remove(walker, frame, target):
    """Delete a target."""
    if target[0] == "Name":
        delete(walker, frame, target[1])
    elif target[0] == "Attribute":
        push(frame, [to(target[1]), (drop_attribute, target[2])])
    else:
        push(frame, [*place_of(target), (drop_element, None)])


def drop_attribute(walker, frame, name):
    delete_attribute(walker, frame.stack.pop(), name)


def drop_element(walker, frame, part):
    value, index = cut_off(frame, 2)
    delete_element(walker, value, index)
