"""Fast code: the rows of a method, with methods that are known put in place of sends."""

from reaimed.check_code import UNREACHED, heights
from reaimed.frames import METHOD, NO_MARK, NO_SCOPE, method_index

MOST_LEVELS = 3
MOST_ROWS = 30
# The self of level 0 is no word, and its holder is that of the frame.
NO_BASE = -1
OWN = -1


class Maker:
    """Fast code that is being made."""

    def __init__(self, code, objects, shapes, caches, known):
        self.methods = code[0]
        self.objects = objects
        self.shapes = shapes
        self.caches = caches
        self.known = known
        self.rows = []
        self.places = []
        self.rests = {}

    def is_too_long(self):
        """Tell whether there are more rows than the bound."""
        return len(self.rows) > self.known

    def add_row(self, row, levels):
        """Add a fast row and its place."""
        self.rows.append(row)
        self.places.append(levels)

    def add_level(self, outer, j, base, holder):
        """Add the rows of a method behind these levels; return the indexes of its leave rows."""
        rows = self.methods[j][3]
        fast_rows = {}
        jumps = []
        leaves = []
        for at, height in enumerate(heights(rows)):
            if self.is_too_long():
                break
            if height == UNREACHED:
                continue
            fast_rows[at] = len(self.rows)
            levels = (*outer, (j, at, base, holder))
            word = rows[at][0]
            if word == "jump" or word == "jumpno":
                jumps.append(len(self.rows))
            if word == "return":
                leaves.append(len(self.rows))
            if word == "send":
                self.add_send(rows[at], levels, height)
            else:
                self.add_row(fast_row(rows[at], base, holder), levels)
        if not self.is_too_long():
            self.fill_targets(jumps, fast_rows)
        return leaves

    def fill_targets(self, jumps, fast_rows):
        """Replace the plain rows by the fast ones in the jumps of a level."""
        for at in jumps:
            word, target = self.rows[at]
            self.rows[at] = (word, fast_rows[target])

    def add_send(self, row, levels, height):
        """Add the row of a send, or what is put in its place."""
        j, at, base, _ = levels[-1]
        found = self.known_slot((j, at))
        if found is None:
            self.add_row(row, levels)
            return
        _, name, many = row
        key, holder, slot, rests = found
        inner = method_index(slot)
        if inner is None and many == 0:
            self.rest_on(rests)
            self.add_row(("read", key, name, holder), levels)
        elif inner is not None and self.is_put_in_place(inner, many, levels):
            self.rest_on(rests)
            more = self.methods[inner][1] - many
            self.add_row(("enter", key, name, many, inner, holder, more), levels)
            # The receiver lies below the arguments, on the stack of this level.
            inner_base = base + self.methods[j][1] + height - many
            self.add_inner((*levels[:-1], (j, at + 1, *levels[-1][2:])), inner, inner_base, holder)
        else:
            self.add_row(row, levels)

    def add_inner(self, outer, j, base, holder):
        """Add the rows of a method that is put in place; its leave rows go on behind it."""
        for at in self.add_level(outer, j, base, holder):
            self.rows[at] = ("leave", base, len(self.rows))

    def rest_on(self, rests):
        """Take note of the objects on which an entry that is used rests."""
        for object_id in rests:
            self.rests[object_id] = True

    def known_slot(self, site):
        """Return key, holder, slot (kind, value) and rests of the only answer of a site, or None."""
        entries = self.caches.entries(site)
        if len(entries) != 1:
            return None
        key, _, answer, rests = entries[0]
        if answer[0] == "own":
            _, kind, value = self.shapes.row(key[0])[answer[1]]
            return (key, OWN, (kind, value), rests)
        if answer[0] == "held":
            _, kind, value = self.objects.slots(answer[1])[answer[2]]
            return (key, answer[1], (kind, value), rests)
        return None

    def is_put_in_place(self, j, many, levels):
        """Tell whether a method with so many arguments is put in place behind these levels."""
        params, _, captured, rows = self.methods[j]
        if params != many or captured or len(rows) > MOST_ROWS:
            return False
        return len(levels) < MOST_LEVELS and all([level[0] != j for level in levels])


def fast_row(row, base, holder):
    """Return the fast row of a plain row that is no send, at a level with this base and holder."""
    word = row[0]
    if word == "self" and base != NO_BASE:
        return ("word", base)
    if word == "local":
        return ("word", base + 1 + row[1])
    if word == "set":
        return ("setword", base + 1 + row[1])
    if word == "resend":
        return (*row, base, holder)
    return row


def make_fast(code, objects, shapes, caches, j, known):
    """Return the fast code of a method with at most so many rows, or None if there is none."""
    if code[0][j][2]:
        return None
    maker = Maker(code, objects, shapes, caches, known)
    maker.add_level((), j, NO_BASE, None)
    if maker.is_too_long():
        return None
    return (j, tuple(maker.rows), tuple(maker.places), tuple(sorted(maker.rests)))


def plain_frames(fast_code, at, self_value, holder, words, code):
    """Return the tuple of the plain frames of a fast frame that comes to a fast row."""
    levels = fast_code[2][at]
    ends = [level[2] for level in levels[1:]] + [len(words)]
    found = []
    for level, end in zip(levels, ends):
        j, row, base, held = level
        own_self = self_value if base == NO_BASE else words[base]
        stack_at = base + 1 + code[0][j][1]
        place = ("locals", words[base + 1:stack_at], NO_SCOPE)
        own_holder = level_holder(own_self, holder, held)
        found.append((METHOD, j, row, own_self, own_holder, place, words[stack_at:end], NO_MARK))
    return tuple(found)


def level_holder(self_value, holder, held):
    """Return the id of the holder of a level: by its place, its self or the holder of the frame."""
    if held is None:
        return holder
    if held == OWN:
        return self_value[1]
    return held
