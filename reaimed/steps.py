"""The rows of plain code, each with what it does on a machine.

Most of them stand in fast code too; there they work on the words of the fast
frame as they work on the stack of a plain one. A row that has an error raises it
before it changes anything.
"""

from reaimed.errors import AimError
from reaimed.frames import (
    BLOCK, METHOD, NO_MARK, is_fast_frame, method_index, moved, replaced, stack_of, without_top)
from reaimed.prims import prim
from reaimed.search import search_value

FREE_KINDS = ("var", "varparent")


class RowError(AimError):
    """A row has a problem, which is told by a word."""

    def __init__(self, problem):
        super().__init__(f"problem {problem}")
        self.problem = problem


def go_on(machine, frame, stack):
    """Let the running frame go on at its next row, with another stack."""
    machine.frames[-1] = moved(frame, frame[2] + 1, stack)


def push(machine, frame, value):
    """Push a value in the running frame, which goes on."""
    go_on(machine, frame, stack_of(frame) + (value,))


def do_push(machine, frame, row):
    """Push the value of the row."""
    push(machine, frame, row[1])


def do_self(machine, frame, row):
    """Push the self of the frame."""
    push(machine, frame, frame[3])


def do_pop(machine, frame, row):
    """Pop a value."""
    go_on(machine, frame, stack_of(frame)[:-1])


def do_local(machine, frame, row):
    """Push the value of a local place."""
    word, where = frame[5][:2]
    values = machine.scopes[where][1] if word == "scope" else where
    push(machine, frame, values[row[1]])


def do_set(machine, frame, row):
    """Pop a value into a local place."""
    value = frame[6][-1]
    place = frame[5]
    if place[0] == "scope":
        set_in_scope(machine, place[1], row[1], value)
    else:
        frame = (*frame[:5], ("locals", replaced(place[1], row[1], value), place[2]), *frame[6:])
    go_on(machine, frame, frame[6][:-1])


def set_in_scope(machine, scope, at, value):
    """Set a value of a scope."""
    outer, values = machine.scopes[scope]
    machine.scopes[scope] = (outer, replaced(values, at, value))


def scope_outwards(machine, frame, depth):
    """Return the id of the scope that lies so many scopes outwards from a frame."""
    place = frame[5]
    scope = machine.scopes[place[1]][0] if place[0] == "scope" else place[2]
    for _ in range(depth - 1):
        scope = machine.scopes[scope][0]
    return scope


def do_outer(machine, frame, row):
    """Push a value of a scope further out."""
    scope = scope_outwards(machine, frame, row[1])
    push(machine, frame, machine.scopes[scope][1][row[2]])


def do_setouter(machine, frame, row):
    """Pop a value into a scope further out."""
    scope = scope_outwards(machine, frame, row[1])
    set_in_scope(machine, scope, row[2], frame[6][-1])
    go_on(machine, frame, frame[6][:-1])


def do_method(machine, frame, row):
    """Push a method."""
    push(machine, frame, (METHOD, row[1]))


def do_block(machine, frame, row):
    """Make a block of what the frame has, and push it."""
    block = machine.make_block((row[1], frame[3], frame[4], frame[5][1], frame[7]))
    push(machine, frame, (BLOCK, block))


def do_object(machine, frame, row):
    """Make an object and push a reference to it."""
    rest, values = without_top(stack_of(frame), len(row[1]))
    slots = tuple([(name, kind, value) for (name, kind), value in zip(row[1], values)])
    go_on(machine, frame, rest + (("ref", machine.objects.make(slots)),))


def do_send(machine, frame, row):
    """Search at a receiver, and do what is found."""
    _, name, many = row
    stack, args = without_top(stack_of(frame), many)
    outcome = machine.search_send(stack[-1], name)
    do_found(machine, moved(frame, frame[2], stack[:-1]), stack[-1], outcome, args)


def do_resend(machine, frame, row):
    """Search behind the holder of a frame, and do what is found."""
    resend_from(machine, frame, row, frame[3], frame[4])


def resend_from(machine, frame, row, self_value, holder):
    """Do a resend of code with this self and this holder."""
    _, name, many = row[:3]
    stack, args = without_top(stack_of(frame), many)
    outcome = machine.search_resend(holder, name)
    do_found(machine, moved(frame, frame[2], stack), self_value, outcome, args)


def do_found(machine, frame, self_value, outcome, args):
    """Run the method that a search has found, or push the value; the frame has popped all."""
    if outcome[0] != "found":
        raise RowError(outcome[0])
    _, holder, kind, value = outcome
    j = method_index((kind, value))
    wanted = 0 if j is None else machine.code[0][j][0]
    if len(args) != wanted:
        raise RowError("arguments")
    if j is None:
        push(machine, frame, value)
    else:
        go_on(machine, frame, stack_of(frame))
        machine.add_method(j, self_value, holder, args)


def do_call(machine, frame, row):
    """Run a block."""
    stack, args = without_top(stack_of(frame), row[1])
    value = stack[-1]
    if value[0] != BLOCK:
        raise RowError("block")
    j, self_value, holder, scope, mark = machine.blocks[value[1]]
    if machine.code[0][j][0] != len(args):
        raise RowError("arguments")
    go_on(machine, frame, stack[:-1])
    machine.add_plain_frame((BLOCK, j, self_value, holder, mark), scope, args)


def do_assign(machine, frame, row):
    """Assign a value to the slot that a search finds."""
    stack, (receiver, value) = without_top(stack_of(frame), 2)
    outcome, _ = search_value(machine.objects, receiver, row[1])
    if outcome[0] != "found":
        raise RowError(outcome[0])
    _, holder, kind, _ = outcome
    if kind not in FREE_KINDS:
        raise RowError("constant")
    go_on(machine, frame, stack)
    machine.objects.assign(holder, row[1], value)
    if kind == "varparent":
        machine.tell_change(holder)


def do_put(machine, frame, row):
    """Put a slot into an object."""
    stack, (receiver, value) = without_top(stack_of(frame), 2)
    if receiver[0] != "ref":
        raise RowError("none")
    go_on(machine, frame, stack)
    machine.objects.put(receiver[1], row[1], row[2], value)
    machine.tell_change(receiver[1])


def do_drop(machine, frame, row):
    """Drop a slot of an object."""
    stack = stack_of(frame)
    receiver = stack[-1]
    if receiver[0] != "ref" or not machine.objects.drop(receiver[1], row[1]):
        raise RowError("none")
    go_on(machine, frame, stack[:-1])
    machine.tell_change(receiver[1])


def do_jump(machine, frame, row):
    """Go on at another row."""
    machine.frames[-1] = moved(frame, row[1], stack_of(frame))


def do_jumpno(machine, frame, row):
    """Pop a truth, and go on at another row if it is false."""
    stack = stack_of(frame)
    if stack[-1] == ("true",):
        go_on(machine, frame, stack[:-1])
    elif stack[-1] == ("false",):
        machine.frames[-1] = moved(frame, row[1], stack[:-1])
    else:
        raise RowError("truth")


def do_prim(machine, frame, row):
    """Pop two values and push what an operator makes of them."""
    stack, (first, second) = without_top(stack_of(frame), 2)
    result = prim(row[1], first, second)
    if result[0] == "error":
        raise RowError(result[1])
    go_on(machine, frame, stack + (result,))


def do_print(machine, frame, row):
    """Pop a value and print it."""
    stack = stack_of(frame)
    go_on(machine, frame, stack[:-1])
    machine.events.append(("print", stack[-1]))


def do_return(machine, frame, row):
    """End the frame with the value on top."""
    end_frames(machine, len(machine.frames) - 1, stack_of(frame)[-1])


def do_home(machine, frame, row):
    """End the home of the frame, and all behind it, with the value on top."""
    at = place_of_home(machine, frame)
    if at is None:
        raise RowError("gone")
    end_frames(machine, at, stack_of(frame)[-1])


def place_of_home(machine, frame):
    """Return the index of the home of a frame, or None."""
    # A fast frame stands for methods that are not captured, so it is the home of no frame.
    mark = NO_MARK if is_fast_frame(frame) else frame[7]
    if mark == NO_MARK:
        return None
    for at, other in enumerate(machine.frames):
        if other[0] == METHOD and other[7] == mark:
            return at
    return None


def end_frames(machine, at, value):
    """End the frames from an index on, and give their value to the one before."""
    del machine.frames[at:]
    if at == 0:
        machine.end = ("done",)
    else:
        frame = machine.frames[-1]
        machine.frames[-1] = moved(frame, frame[2], stack_of(frame) + (value,))


STEPS = {
    "push": do_push,
    "self": do_self,
    "pop": do_pop,
    "local": do_local,
    "set": do_set,
    "outer": do_outer,
    "setouter": do_setouter,
    "method": do_method,
    "block": do_block,
    "object": do_object,
    "send": do_send,
    "resend": do_resend,
    "call": do_call,
    "assign": do_assign,
    "put": do_put,
    "drop": do_drop,
    "jump": do_jump,
    "jumpno": do_jumpno,
    "prim": do_prim,
    "print": do_print,
    "return": do_return,
    "home": do_home,
}


def do_row(machine, frame, row):
    """Do a row of the running frame; raise its error."""
    step = STEPS[row[0]]
    step(machine, frame, row)


def next_row(machine, frame):
    """Return the row that comes next in a plain frame."""
    return machine.code[0][frame[1]][3][frame[2]]
