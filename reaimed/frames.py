"""Frames: what plain and fast ones have in common.

A plain frame is (kind, j, row, self, holder, place, stack, mark), a fast one
("fast", fast_code, at, self, holder, words). In both the index of the row that
comes next is the third part, and the values on which rows work stand in one
tuple, whose last one is the top.
"""

FAST = "fast"
METHOD = "method"
BLOCK = "block"
NO_MARK = 0
NO_SCOPE = -1
NOTHING = ("nothing",)


def is_fast_frame(frame):
    """Tell whether a frame is a fast one."""
    return frame[0] == FAST


def stack_of(frame):
    """Return the stack of a plain frame or the words of a fast one."""
    if is_fast_frame(frame):
        return frame[5]
    return frame[6]


def moved(frame, row, stack):
    """Return a frame with another row that comes next and another stack, or other words."""
    if is_fast_frame(frame):
        return (*frame[:2], row, *frame[3:5], stack)
    return (*frame[:2], row, *frame[3:6], stack, frame[7])


def replaced(values, at, value):
    """Return a tuple of values with another one at an index."""
    return (*values[:at], value, *values[at + 1:])


def first_values(args, many):
    """Return the values of local places at the beginning: the arguments, and nothing for the others."""
    return args + (NOTHING,) * (many - len(args))


def without_top(stack, many):
    """Return a stack without its top values, and these values."""
    at = len(stack) - many
    return (stack[:at], stack[at:])


def method_index(slot):
    """Return the index of the method of a slot (kind, value), or None if it is a data slot."""
    kind, value = slot
    if kind == METHOD and value[0] == METHOD:
        return value[1]
    return None
