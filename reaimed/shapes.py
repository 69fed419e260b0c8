"""Shapes: numbers for what objects have in common but for what may be assigned."""

from reaimed.objects import PARENT_KINDS

FIXED = ("const", "method", "parent")
FREE_PARENT = "varparent"


def row_of(slots):
    """Return the row of a tuple of slots: without the values that may be assigned."""
    return tuple([(name, kind, fixed_value(kind, value)) for name, kind, value in slots])


def fixed_value(kind, value):
    """Return a value if slots of this kind are fixed, otherwise None."""
    return value if kind in FIXED else None


class Shapes:
    """All rows that were asked for, each with its number, and the ways between them."""

    def __init__(self):
        self.ways_used = 0
        self.rows = []
        self.numbers = {}
        self.ways = {}
        self.number_of(())

    def shape_of(self, slots):
        """Return the shape of a tuple of slots."""
        return self.number_of(row_of(slots))

    def number_of(self, row):
        """Return the number of a row; a new row gets the next one."""
        if row not in self.numbers:
            self.numbers[row] = len(self.rows)
            self.rows.append(row)
        return self.numbers[row]

    def row(self, shape):
        """Return the row of a shape."""
        return self.rows[shape]

    def count(self):
        """Return the number of shapes."""
        return len(self.rows)

    def put(self, shape, name, kind, value):
        """Return the shape after a slot is put."""
        slot = (name, kind, fixed_value(kind, value))
        return self.behind(shape, ("put", slot))

    def drop(self, shape, name):
        """Return the shape after a slot is dropped."""
        if self.place(shape, name) == -1:
            return shape
        return self.behind(shape, ("drop", name))

    def behind(self, shape, way):
        """Return the shape to which a way leads; the way is remembered."""
        key = (shape, way)
        if key in self.ways:
            self.ways_used += 1
        else:
            self.ways[key] = self.number_of(self.changed_row(shape, way))
        return self.ways[key]

    def changed_row(self, shape, way):
        """Return the row of a shape after the change that a way stands for."""
        row = self.rows[shape]
        word, what = way
        if word == "drop":
            return tuple([slot for slot in row if slot[0] != what])
        at = self.place(shape, what[0])
        if at == -1:
            return (*row, what)
        return (*row[:at], what, *row[at + 1:])

    def place(self, shape, name):
        """Return the index of the slot of a name in a shape, or -1."""
        for at, slot in enumerate(self.rows[shape]):
            if slot[0] == name:
                return at
        return -1

    def parents(self, shape):
        """Return the indexes of the slots of a shape that may name parents."""
        return tuple([at for at, slot in enumerate(self.rows[shape]) if slot[1] in PARENT_KINDS])

    def free_parents(self, shape):
        """Return the indexes of the slots of a shape that may name parents and may be assigned."""
        return tuple([at for at, slot in enumerate(self.rows[shape]) if slot[1] == FREE_PARENT])
