"""The rows of fast code that plain code does not have, each with what it does on a fast machine."""

from reaimed.caches import key_of
from reaimed.fast_code import level_holder
from reaimed.frames import NOTHING, moved, replaced, stack_of
from reaimed.steps import do_row, go_on, push, resend_from

KEYED = ("read", "enter")


def do_word(machine, frame, row):
    """Push a word."""
    push(machine, frame, stack_of(frame)[row[1]])


def do_setword(machine, frame, row):
    """Pop a value into a word."""
    words = stack_of(frame)
    go_on(machine, frame, replaced(words, row[1], words[-1])[:-1])


def do_level_resend(machine, frame, row):
    """Search behind the holder of a level, and do what is found."""
    _, _, _, base, held = row
    self_value = frame[3] if held is None else stack_of(frame)[base]
    resend_from(machine, frame, row, self_value, level_holder(self_value, frame[4], held))


def do_read(machine, frame, row):
    """Pop a receiver and push the value of a slot of it, or of the holder."""
    _, _, name, holder = row
    words = stack_of(frame)
    _, value = machine.objects.slot(level_holder(words[-1], frame[4], holder), name)
    go_on(machine, frame, words[:-1] + (value,))
    machine.placed += 1


def do_enter(machine, frame, row):
    """Begin a level: its self and its arguments are the last words."""
    go_on(machine, frame, stack_of(frame) + (NOTHING,) * row[6])
    machine.placed += 1


def do_leave(machine, frame, row):
    """End a level with the value on top."""
    _, base, target = row
    words = stack_of(frame)
    machine.frames[-1] = moved(frame, target, words[:base] + words[-1:])
    machine.placed += 1


FAST_STEPS = {
    "word": do_word,
    "setword": do_setword,
    "resend": do_level_resend,
    "read": do_read,
    "enter": do_enter,
    "leave": do_leave,
}


def do_fast_row(machine, frame, row):
    """Do a row of the running frame, which is a fast one; raise its error."""
    if row[0] in FAST_STEPS:
        step = FAST_STEPS[row[0]]
        step(machine, frame, row)
    else:
        do_row(machine, frame, row)


def lacks_key(machine, frame, row):
    """Tell whether a row needs a key that its receiver does not have."""
    if row[0] not in KEYED:
        return False
    # The receiver lies below the arguments, and a read has none.
    many = row[3] if row[0] == "enter" else 0
    receiver = stack_of(frame)[-1 - many]
    if receiver[0] != "ref":
        return True
    return key_of(machine.objects, machine.shapes, row[2], receiver[1]) != row[1]
