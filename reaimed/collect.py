"""Collections: what can be reached stays, all else is taken away.

What is reached is a pair: "object", "scope" or "block", and an id.
"""

from reaimed.machine import keep_only
from reaimed.objects import LOBBY

NAMED_BY = {"ref": "object", "block": "block"}


def live(objects, scopes, blocks, frames):
    """Return the lists of the ids of the live objects, scopes and blocks, each ascending."""
    waiting = [("object", LOBBY)]
    for frame in frames:
        waiting.extend(behind_frame(frame))
    reached = {}
    # Values may make long chains, so what waits stands in a list and not in calls.
    while len(waiting) > 0:
        what = waiting.pop()
        if what not in reached:
            reached[what] = True
            waiting.extend(behind(objects, scopes, blocks, what))
    return (ids_of(reached, "object"), ids_of(reached, "scope"), ids_of(reached, "block"))


def ids_of(reached, wanted):
    """Return the ids of one kind among what was reached, ascending."""
    return sorted([number for word, number in reached if word == wanted])


def behind_values(values):
    """Return what these values lead to."""
    return [(NAMED_BY[value[0]], value[1]) for value in values if value[0] in NAMED_BY]


def behind_scope(scope):
    """Return the scope with an id; -1 stands for none."""
    return [("scope", scope)] if scope >= 0 else []


def behind_frame(frame):
    """Return what a frame names."""
    _, _, _, self_value, holder, place, stack, _ = frame
    found = [("object", holder), *behind_values((self_value, *stack))]
    if place[0] == "scope":
        return found + behind_scope(place[1])
    return found + behind_values(place[1]) + behind_scope(place[2])


def behind(objects, scopes, blocks, what):
    """Return what an object, a scope or a block leads to."""
    word, number = what
    if word == "object":
        return behind_values([value for _, _, value in objects.slots(number)])
    if word == "scope":
        outer, values = scopes[number]
        return behind_scope(outer) + behind_values(values)
    _, self_value, holder, scope, _ = blocks[number]
    return [("object", holder), *behind_values((self_value,)), *behind_scope(scope)]


def collect(objects, scopes, blocks, frames):
    """Take away what is not live; return the ids of the objects that were taken away, ascending."""
    live_objects, live_scopes, live_blocks = live(objects, scopes, blocks, frames)
    kept = set(live_objects)
    gone = [number for number in objects.ids() if number not in kept]
    objects.keep(live_objects)
    keep_only(scopes, live_scopes)
    keep_only(blocks, live_blocks)
    return gone
