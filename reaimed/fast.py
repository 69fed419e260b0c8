"""The fast machine, which has caches and fast code."""

from reaimed.caches import Caches
from reaimed.collect import collect
from reaimed.fast_code import make_fast, plain_frames
from reaimed.fast_steps import do_fast_row, lacks_key
from reaimed.frames import FAST, first_values, is_fast_frame
from reaimed.machine import Machine
from reaimed.shapes import Shapes
from reaimed.steps import RowError, do_row, next_row

MOST_FAST_ROWS = 400


class FastMachine(Machine):
    """A machine that runs plain and fast code, and shows plain frames."""

    def __init__(self, code):
        super().__init__(code)
        self.shapes = Shapes()
        self.caches = Caches(self.objects, self.shapes)
        self.fast_codes = {}
        self.searches = 0
        self.placed = 0

    def tick(self):
        """Do the row that comes next in the last frame."""
        if self.end is not None:
            return
        self.ticks += 1
        try:
            self.do_next()
        except RowError as error:
            self.end = ("error", error.problem)

    def do_next(self):
        """Do the row that comes next, fast or plain; raise its error."""
        frame = self.frames[-1]
        if is_fast_frame(frame):
            row = frame[1][1][frame[2]]
            if not lacks_key(self, frame, row):
                do_fast_row(self, frame, row)
                return
            self.frames[-1:] = self.plain_of(frame)
            frame = self.frames[-1]
        do_row(self, frame, next_row(self, frame))

    def plain_of(self, frame):
        """Return the plain frames that a frame stands for."""
        if not is_fast_frame(frame):
            return (frame,)
        _, fast_code, at, self_value, holder, words = frame
        return plain_frames(fast_code, at, self_value, holder, words, self.code)

    def all_plain(self):
        """Return the list of the plain frames that all frames stand for."""
        return [one for frame in self.frames for one in self.plain_of(frame)]

    def state(self):
        """Return the tuple (frames, objects, scopes, blocks, events, end)."""
        return self.state_with(self.all_plain())

    def prepare(self, j):
        """Make fast code for a method; tell whether there is some then."""
        made = make_fast(self.code, self.objects, self.shapes, self.caches, j, MOST_FAST_ROWS)
        if made is not None:
            self.fast_codes[j] = made
        return self.is_fast(j)

    def is_fast(self, j):
        """Tell whether there is fast code for a method."""
        return j in self.fast_codes

    def take_back(self, j):
        """Take the fast code of a method back; its fast frames turn plain."""
        self.take_back_all(lambda fast_code: fast_code[0] == j)

    def forget(self):
        """Forget what the caches know, and take all fast code back."""
        self.caches = Caches(self.objects, self.shapes)
        self.take_back_all(lambda fast_code: True)

    def collect(self):
        """Take away what cannot be reached."""
        gone = collect(self.objects, self.scopes, self.blocks, self.all_plain())
        self.caches.gone(gone)
        self.take_back_resting(gone)

    def tell_change(self, object_id):
        """Tell the caches that an object changed, and take back the fast code that rests on it."""
        self.caches.changed(object_id)
        self.take_back_resting([object_id])

    def take_back_resting(self, ids):
        """Take back all fast code that rests on one of these objects."""
        lost = {number: True for number in ids}
        self.take_back_all(lambda fast_code: rests_on_any(fast_code, lost))

    def take_back_all(self, is_meant):
        """Take back all fast code that is meant; frames with such code, also earlier one, turn plain."""
        self.fast_codes = {j: made for j, made in self.fast_codes.items() if not is_meant(made)}
        frames = []
        for frame in self.frames:
            if is_fast_frame(frame) and is_meant(frame[1]):
                frames.extend(self.plain_of(frame))
            else:
                frames.append(frame)
        self.frames = frames

    def add_method(self, j, self_value, holder, args):
        """Add a frame of a method, a fast one if there is fast code."""
        if j in self.fast_codes:
            words = first_values(args, self.code[0][j][1])
            self.frames.append((FAST, self.fast_codes[j], 0, self_value, holder, words))
        else:
            self.add_plain_method(j, self_value, holder, args)

    def search_send(self, receiver, name):
        """Return the outcome of the search of a send, from the caches."""
        if receiver[0] != "ref":
            return ("none",)
        misses = self.caches.misses
        answer = self.caches.ask(self.site(), name, receiver[1])
        self.searches += self.caches.misses - misses
        return self.outcome_of(answer, receiver[1])

    def search_resend(self, holder, name):
        """Return the outcome of the search of a resend, from the caches."""
        if not self.objects.has(holder):
            return ("none",)
        misses = self.caches.misses
        answer = self.caches.ask_resend(self.site(), name, holder)
        self.searches += self.caches.misses - misses
        return self.outcome_of(answer, holder)

    def site(self):
        """Return the method and the plain row that come next."""
        frame = self.frames[-1]
        if is_fast_frame(frame):
            j, row, _, _ = frame[1][2][frame[2]][-1]
            return (j, row)
        return (frame[1], frame[2])

    def outcome_of(self, answer, asked):
        """Return the outcome of the search to which an answer belongs."""
        if answer[0] == "none" or answer[0] == "several":
            return answer
        holder = asked if answer[0] == "own" else answer[1]
        _, kind, value = self.objects.slots(holder)[answer[-1]]
        return ("found", holder, kind, value)


def rests_on_any(fast_code, ids):
    """Tell whether fast code rests on one of the objects in a dict."""
    return any([number in ids for number in fast_code[3]])
