"""What both machines have."""

from reaimed.frames import METHOD, NO_MARK, NO_SCOPE, first_values
from reaimed.objects import LOBBY, Objects


def keep_only(table, numbers):
    """Take everything out of a dict but what these numbers lead to."""
    kept = set(numbers)
    for number in list(table):
        if number not in kept:
            del table[number]


class Machine:
    """Objects, scopes, blocks, frames, events and an end, and the ids that come next."""

    def __init__(self, code):
        self.code = code
        self.objects = Objects()
        self.scopes = {}
        self.blocks = {}
        self.frames = []
        self.events = []
        self.end = None
        self.ticks = 0
        self.next_scope = 0
        self.next_block = 0
        self.last_mark = NO_MARK
        self.add_plain_method(code[1], ("ref", LOBBY), LOBBY, ())

    def add_plain_method(self, j, self_value, holder, args):
        """Add a plain frame of a method."""
        captured = self.code[0][j][2]
        if captured:
            self.last_mark += 1
        mark = self.last_mark if captured else NO_MARK
        self.add_plain_frame((METHOD, j, self_value, holder, mark), NO_SCOPE, args)

    def add_plain_frame(self, head, outer, args):
        """Add a plain frame; the head is its kind, its code, its self, its holder and its mark."""
        kind, j, self_value, holder, mark = head
        _, many, captured, _ = self.code[0][j]
        values = first_values(args, many)
        if captured:
            place = ("scope", self.make_scope(outer, values))
        else:
            place = ("locals", values, outer)
        self.frames.append((kind, j, 0, self_value, holder, place, (), mark))

    def make_scope(self, outer, values):
        """Make a scope and return its id."""
        scope = self.next_scope
        self.next_scope += 1
        self.scopes[scope] = (outer, values)
        return scope

    def make_block(self, block):
        """Make a block and return its id."""
        number = self.next_block
        self.next_block += 1
        self.blocks[number] = block
        return number

    def state_with(self, frames):
        """Return the state with these frames."""
        scopes = tuple([(number, self.scopes[number]) for number in sorted(self.scopes)])
        blocks = tuple([(number, self.blocks[number]) for number in sorted(self.blocks)])
        return (tuple(frames), self.objects.image(), scopes, blocks, tuple(self.events), self.end)
