"""How the walker stores into targets and deletes them."""

from codewalk.evaluating import place_of, to
from codewalk.outlines import delete, load, push, store
from codewalk.results import get_attribute
from codewalk.shapes import has_slice
from codewalk.stacks import (
    copy_entry, drop_attribute, drop_element, get_element, get_slice, operate_on_two, put_attribute, put_element,
    put_slice, swap, unpack, unpack_with_list,
)


def assign(walker, frame, target):
    """Store the top of the stack into a target."""
    word = target[0]
    if word == "Name":
        store(walker, frame, target[1], frame.stack.pop())
    elif word == "Attribute":
        push(frame, [to(target[1]), (put_attribute, target[2])])
    elif word == "Subscript":
        push(frame, [*place_of(target), (put_slice if has_slice(target) else put_element, None)])
    else:
        assign_pieces(walker, frame, target[1])


def assign_pieces(walker, frame, pieces):
    words = [piece[0] for piece in pieces]
    if "Starred" in words:
        ahead = words.index("Starred")
        unpack_with_list(walker, frame, (ahead, len(pieces) - ahead - 1))
    else:
        unpack(walker, frame, len(pieces))
    push(frame, [(assign, piece[1] if piece[0] == "Starred" else piece) for piece in pieces])


def assign_in_place(walker, frame, node):
    """Change what a target has by an operation."""
    _, _, target, op, value = node
    change = [to(value), (operate_on_two, op + "=")]
    if target[0] == "Name":
        frame.stack.append(load(walker, frame, target[1]))
        push(frame, [*change, (assign, target)])
    elif target[0] == "Attribute":
        read = [to(target[1]), (copy_entry, 1), (get_attribute, target[2])]
        push(frame, [*read, *change, (swap, 2), (put_attribute, target[2])])
    elif has_slice(target):
        # Three values tell the place; each of them is wanted twice, and what is stored below them all.
        read = [*place_of(target), (copy_entry, 3), (copy_entry, 3), (copy_entry, 3), (get_slice, None)]
        push(frame, [*read, *change, (swap, 4), (swap, 3), (swap, 2), (put_slice, None)])
    else:
        read = [*place_of(target), (copy_entry, 2), (copy_entry, 2), (get_element, None)]
        push(frame, [*read, *change, (swap, 3), (swap, 2), (put_element, None)])


def remove(walker, frame, target):
    """Delete a target."""
    if target[0] == "Name":
        delete(walker, frame, target[1])
    elif target[0] == "Attribute":
        push(frame, [to(target[1]), (drop_attribute, target[2])])
    else:
        push(frame, [*place_of(target), (drop_element, None)])
