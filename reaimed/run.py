"""Running: machines with a number of ticks, and deeds between them."""

from reaimed.collect import live
from reaimed.emit import compile_text
from reaimed.fast import FastMachine
from reaimed.plain import PlainMachine


def run_plain(code, ticks):
    """Return a plain machine that has an end or has done so many ticks."""
    machine = PlainMachine(code)
    while machine.end is None and machine.ticks < ticks:
        machine.tick()
    return machine


def run_fast(code, schedule, ticks):
    """Return a fast machine that has an end or has done so many ticks, with deeds before them."""
    machine = FastMachine(code)
    deeds = deeds_of_ticks(schedule)
    while machine.end is None and machine.ticks < ticks:
        for deed in deeds.get(machine.ticks, []):
            do_deed(machine, deed)
        machine.tick()
    return machine


def deeds_of_ticks(schedule):
    """Return a dict from ticks to the lists of their deeds."""
    deeds = {}
    for tick, deed in schedule:
        deeds.setdefault(tick, []).append(deed)
    return deeds


def do_deed(machine, deed):
    """Ask a fast machine to do a deed; a method that does not exist is passed over."""
    many = len(machine.code[0])
    match deed:
        case ("compile", j) if 0 <= j < many:
            machine.prepare(j)
        case ("compile all",):
            for each in range(many):
                machine.prepare(each)
        case ("take back", j) if 0 <= j < many:
            machine.take_back(j)
        case ("forget",):
            machine.forget()
        case ("collect",):
            machine.collect()


def run_text(text, schedule, ticks):
    """Return the tuple of the events of a text, and its end or None."""
    machine = run_fast(compile_text(text), schedule, ticks)
    return (tuple(machine.events), machine.end)


def same_state(fast, plain):
    """Tell whether the state of a fast machine is that of a plain one, but for what cannot be reached."""
    fast_frames, fast_objects, fast_scopes, fast_blocks, fast_events, fast_end = fast.state()
    frames, objects, scopes, blocks, events, end = plain.state()
    if (fast_frames, fast_events, fast_end) != (frames, events, end):
        return False
    reached = live(plain.objects, plain.scopes, plain.blocks, frames)
    pairs = ((fast_objects, objects), (fast_scopes, scopes), (fast_blocks, blocks))
    return all([same_things(few, many, ids) for (few, many), ids in zip(pairs, reached)])


def same_things(few, many, ids):
    """Tell whether two tuples of pairs (id, thing) are the same but for things that have none of these ids."""
    there = dict(few)
    known = dict(many)
    if any([number not in known or known[number] != thing for number, thing in few]):
        return False
    return all([number in there for number in ids])
