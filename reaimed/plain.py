"""The plain machine, which does one row in each tick and searches for each send."""

from reaimed.machine import Machine, keep_only
from reaimed.search import search, search_value
from reaimed.steps import RowError, do_row, next_row


class PlainMachine(Machine):
    """A machine that runs plain code."""

    def __init__(self, code):
        super().__init__(code)

    def tick(self):
        """Do the row that comes next in the last frame."""
        if self.end is not None:
            return
        self.ticks += 1
        frame = self.frames[-1]
        try:
            do_row(self, frame, next_row(self, frame))
        except RowError as error:
            self.end = ("error", error.problem)

    def keep(self, objects, scopes, blocks):
        """Take away all objects, scopes and blocks whose ids are not in these lists."""
        self.objects.keep(objects)
        keep_only(self.scopes, scopes)
        keep_only(self.blocks, blocks)

    def state(self):
        """Return the tuple (frames, objects, scopes, blocks, events, end)."""
        return self.state_with(self.frames)

    def search_send(self, receiver, name):
        """Return the outcome of the search of a send."""
        outcome, _ = search_value(self.objects, receiver, name)
        return outcome

    def search_resend(self, holder, name):
        """Return the outcome of the search of a resend."""
        if not self.objects.has(holder):
            return ("none",)
        outcome, _ = search(self.objects, self.objects.parents(holder), name)
        return outcome

    def add_method(self, j, self_value, holder, args):
        """Add a frame of a method."""
        self.add_plain_method(j, self_value, holder, args)

    def tell_change(self, object_id):
        """Take note that an object changed: nothing is remembered of it here."""
