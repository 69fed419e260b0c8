"""Objects: what has slots."""

KINDS = ("const", "var", "parent", "varparent", "method")
PARENT_KINDS = ("parent", "varparent")
LOBBY = 0


class Objects:
    """All objects that are there, from the lobby on.

    Each id leads to a dict from the names of the slots to pairs (kind, value).
    A dict keeps the place of a name whose pair is replaced, as a slot does.
    """

    def __init__(self):
        self.table = {}
        self.next_id = 0
        self.make((("lobby", "const", ("ref", LOBBY)),))

    def make(self, slots):
        """Make an object with these slots and return its id."""
        object_id = self.next_id
        self.next_id += 1
        self.table[object_id] = {}
        for name, kind, value in slots:
            self.put(object_id, name, kind, value)
        return object_id

    def ids(self):
        """Return the list of the ids, ascending."""
        # Ids are given in order, so the dict has them in order.
        return list(self.table)

    def has(self, object_id):
        """Tell whether there is an object with an id."""
        return object_id in self.table

    def slots(self, object_id):
        """Return the tuple of the slots (name, kind, value) of an object."""
        pairs = self.table[object_id]
        return tuple([(name, kind, value) for name, (kind, value) in pairs.items()])

    def slot(self, object_id, name):
        """Return the pair (kind, value) of a slot, or None."""
        return self.table[object_id].get(name)

    def put(self, object_id, name, kind, value):
        """Replace the slot of a name, or make it the last one."""
        self.table[object_id][name] = (kind, value)

    def drop(self, object_id, name):
        """Take a slot away if there is one; tell whether there was."""
        if name not in self.table[object_id]:
            return False
        del self.table[object_id][name]
        return True

    def assign(self, object_id, name, value):
        """Replace the value of a slot that is there."""
        kind, _ = self.table[object_id][name]
        self.table[object_id][name] = (kind, value)

    def parents(self, object_id):
        """Return the ids of the parents of an object, in the order of its slots."""
        found = []
        for kind, value in self.table[object_id].values():
            if kind in PARENT_KINDS and value[0] == "ref":
                found.append(value[1])
        return tuple(found)

    def keep(self, ids):
        """Take away all objects whose ids are not in a list."""
        kept = set(ids)
        self.table = {object_id: pairs for object_id, pairs in self.table.items() if object_id in kept}

    def image(self):
        """Return the tuple of the pairs (id, slots), ascending."""
        return tuple([(object_id, self.slots(object_id)) for object_id in self.ids()])
